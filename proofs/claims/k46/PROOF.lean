import PyProof.Rows.All
import Wide.All
import OpenK.AllK
import Wide.FinOn
import KE.KStateDown
import HandS.Head0
import HandS.Head1
import HandS.Head2
import HandS.HeadEnd
import HandS.HeadHook1
import HandS.HeadHook2
import HandS.HeadHook3
import Wide.Once
import HandS.ForMost
import HandS.Evl
import HandS.Style
import HandS.Conv
import HandS.WideBits
import HandS.ForExc
import HandS.IsInst
import HandS.ExcIs
import HandS.Strs
import HandS.Deep
import KE.KExcIs
import HandS.Defaults
import HandS.ExcInit
import HandS.ClsMeth
import HandS.More
import HandS.WrittenGet
import HandS.Zip
import HandS.Walk
import HandS.Flow
import HandS.TupAny
import PyProof.Rows.SortShellAny
import HandS.HotCalls
import HandS.ExcCtx
import HandS.TryOnly
import HandS.Text
import PyProof.StrOps2
import HandS.Iter
import PyProof.Draws
import PyProof.EnumMake
import KE.KRevSl
import KE.KStrOpen
import KE.KxWritten
import HandS.StrMore
import KE.KDictDisplayH
import PyProof.Rows.TupIter
import PySem.Challenge.RW_sandreckoner_k46_great_elements
set_option Elab.async false
set_option linter.all false
set_option maxRecDepth 100000
set_option maxHeartbeats 4000000
set_option Elab.async false
set_option linter.all false
set_option maxRecDepth 100000
set_option maxHeartbeats 2000000
namespace Sk
open PySem L2 Evl
abbrev VP := V → Hp → Prop
/-- an expression that evaluates to something of R, the heap growing -/
def ER (te : TE) (σ : L2.St) (H : Hp) (R : VP) : Prop := ∀ H1, Ex H H1 → ∀ Q : VK, (∀ v H2, Ex H1 H2 → R v H2 → Q v H2) → te σ H1 Q
def EA (ta : TA) (σ : L2.St) (H : Hp) (R : List V → Hp → Prop) : Prop := ∀ H1, Ex H H1 → ∀ Q : List V → Hp → Prop, (∀ v H2, Ex H1 H2 → R v H2 → Q v H2) → ta σ H1 Q
/-- a call's promise: handed vs it gives something of R -/
def SR (sp : Sp) (vs : List V) (H : Hp) (R : VP) : Prop := ∀ (Q : VK) (E : XK), (∀ v H2, Ex H H2 → R v H2 → Q v H2) → sp vs H Q E
def Mono (R : VP) : Prop := ∀ v H H', Ex H H' → R v H → R v H'
def MonoL (R : List V → Hp → Prop) : Prop := ∀ v H H', Ex H H' → R v H → R v H'
section
variable {K : PySem.W.Frag} {σ : L2.St} {H H' : Hp} {te tl : TE} {ta tr : TA} {v : V} {R R' : VP} {D : Ends} {tz : TS} {i : Nat}
theorem ER.imp (h : ER te σ H R) (k : ∀ v H2, Ex H H2 → R v H2 → R' v H2) : ER te σ H R' := fun H1 e Q q => h H1 e Q fun v H2 e2 r => q v H2 e2 (k v H2 (e.trans e2) r)
theorem ER.mono (e : Ex H H') (h : ER te σ H R) : ER te σ H' R := fun H1 e1 Q q => h H1 (e.trans e1) Q q
theorem er_ev (h : Ev te σ H v) (hR : ∀ H1, Ex H H1 → R v H1) : ER te σ H R := fun H1 e Q q => h H1 e Q fun H2 e2 => q v H2 e2 (hR H2 (e.trans e2))
theorem er_is (h : Ev te σ H v) : ER te σ H (fun w _ => w = v) := er_ev h fun _ _ => rfl
theorem ev_er (h : ER te σ H (fun w _ => w = v)) : Ev te σ H v := fun H1 e Q q => h H1 e Q fun w H2 e2 r => by subst r; exact q H2 e2
theorem er_var (h : σ[i]? = some (some v)) (hR : ∀ H1, Ex H H1 → R v H1) : ER (tVar i) σ H R := er_ev (ev_var h) hR
theorem ea_nil' : EA tNil σ H (fun vs _ => vs = []) := fun H1 _ Q q => q [] H1 (Ex.refl H1) rfl
theorem ea_cons' {R1 : VP} {R2 : List V → Hp → Prop} (h : ER te σ H R1) (m : Mono R1) (hr : EA tr σ H R2) : EA (tCons te tr) σ H (fun vs H2 => ∃ v r, vs = v :: r ∧ R1 v H2 ∧ R2 r H2) := fun H1 e Q q =>
  h H1 e _ fun v H2 e2 r1 => hr H2 (e.trans e2) _ fun r H3 e3 r2 => q _ H3 (e2.trans e3) ⟨v, r, rfl, m v H2 H3 e3 r1, r2⟩
theorem ea_imp {R1 R2 : List V → Hp → Prop} (h : EA ta σ H R1) (k : ∀ v H2, Ex H H2 → R1 v H2 → R2 v H2) : EA ta σ H R2 := fun H1 e Q q => h H1 e Q fun v H2 e2 r => q v H2 e2 (k v H2 (e.trans e2) r)
theorem ea_one (h : ER te σ H R) (m : Mono R) : EA (tCons te tNil) σ H (fun vs H2 => ∃ v, vs = [v] ∧ R v H2) := ea_imp (ea_cons' h m ea_nil') fun vs H2 _ ⟨v, r, e1, r1, e2⟩ => ⟨v, by rw [e1, e2], r1⟩
theorem ea_two {te' : TE} (h : ER te σ H R) (m : Mono R) (h' : ER te' σ H R') (m' : Mono R') : EA (tCons te (tCons te' tNil)) σ H (fun vs H2 => ∃ v w, vs = [v, w] ∧ R v H2 ∧ R' w H2) :=
  ea_imp (ea_cons' h m (ea_one h' m')) fun vs H2 _ ⟨v, r, e1, r1, w, e2, r2⟩ => ⟨v, w, by rw [e1, e2], r1, r2⟩
theorem ea_three {te' te'' : TE} {R'' : VP} (h : ER te σ H R) (m : Mono R) (h' : ER te' σ H R') (m' : Mono R') (h'' : ER te'' σ H R'') (m'' : Mono R'') : EA (tCons te (tCons te' (tCons te'' tNil))) σ H (fun vs H2 => ∃ v w z, vs = [v, w, z] ∧ R v H2 ∧ R' w H2 ∧ R'' z H2) :=
  ea_imp (ea_cons' h m (ea_two h' m' h'' m'')) fun vs H2 _ ⟨v, r, e1, r1, w, z, e2, r2, r3⟩ => ⟨v, w, z, by rw [e1, e2], r1, r2, r3⟩
theorem er_call {sp : Sp} {E : XK} {RA : List V → Hp → Prop} (h : EA ta σ H RA) (k : ∀ vs H1, Ex H H1 → RA vs H1 → SR sp vs H1 R) : ER (tCall sp [] E ta) σ H R := fun H1 e Q q =>
  h H1 e _ fun vs H2 e2 r => by
    show sp (vs ++ []) H2 Q E
    rw [List.append_nil]
    exact k vs H2 (e.trans e2) r Q E fun v H3 e3 rv => q v H3 (e2.trans e3) rv
/-- a tuple is made -/
theorem er_tup {RA : List V → Hp → Prop} (h : EA ta σ H RA) (m : MonoL RA) (hz : ∀ vs H2, RA vs H2 → vs.length ≤ 100000) : ER (tTup ta) σ H (fun v H2 => ∃ p vs, v = .ref p ∧ H2 p = some (.tup vs) ∧ RA vs H2) := fun H1 e Q q =>
  h H1 e _ fun vs H2 e2 r => ⟨sz_of (hz vs H2 r), fun p hp => q _ _ (e2.trans (Ex.new hp)) ⟨p, vs, rfl, upd_same, m vs H2 _ (Ex.new hp) r⟩⟩
theorem er_lst {RA : List V → Hp → Prop} (h : EA ta σ H RA) (m : MonoL RA) (hz : ∀ vs H2, RA vs H2 → vs.length ≤ 100000) : ER (tLst ta) σ H (fun v H2 => ∃ p vs, v = .ref p ∧ H p = none ∧ H2 p = some (.lst vs) ∧ RA vs H2) := fun H1 e Q q =>
  h H1 e _ fun vs H2 e2 r => ⟨sz_of (hz vs H2 r), fun p hp => q _ _ (e2.trans (Ex.new hp)) ⟨p, vs, rfl, fresh_back e (fresh_back e2 hp), upd_same, m vs H2 _ (Ex.new hp) r⟩⟩
/-- statements -/
theorem s_asgR (h : ER te σ H R) (k : ∀ v H1, Ex H H1 → R v H1 → D.nx (σ.set i (some v)) H1) : tAsg te (gName i) D σ H := h H (Ex.refl H) _ fun v H1 e r => k v H1 e r
theorem q_asgR (h : ER te σ H R) (k : ∀ v H1, Ex H H1 → R v H1 → tz D (σ.set i (some v)) H1) : tSeq (tAsg te (gName i)) tz D σ H := s_asgR (D := { D with nx := tz D }) h k
theorem s_retR (h : ER te σ H R) (k : ∀ v H1, Ex H H1 → R v H1 → D.rt v H1) : tRet te D σ H := h H (Ex.refl H) _ fun v H1 e r => k v H1 e r
/-- xs.append(e), e of R -/
theorem s_appR {l : Addr} {xs : List V} (hl : H l = some (.lst xs)) (hv : Ev tl σ H (.ref l)) (h : ER te σ H R) (hz : xs.length < 100000) (k : ∀ v H1, Ex H H1 → R v H1 → D.nx σ (upd H1 l (.lst (xs ++ [v])))) :
    tDrop (tBM K "list" rAppend tl (tCons te tNil)) D σ H := hv H (Ex.refl H) _ fun H1 e1 =>
  ⟨Or.inl ⟨rfl, xs, sq_of (e1 l _ hl)⟩, h H1 e1 _ fun v H2 e2 r => ⟨l, xs, v, rfl, rfl, e2 l _ (e1 l _ hl), sz_lt hz, k v H2 (e1.trans e2) r⟩⟩
/-- (u, w) unpacked into two names -/
theorem g_pair {a : Addr} {u w : V} {i j : Nat} {Q : L2.St → Hp → Prop} (h : SqT K H a [u, w]) (q : Q ((σ.set i (some u)).set j (some w)) H) : gTup K 2 (gCons (gName i) (gCons (gName j) gNil)) (.ref a) σ H Q :=
  ⟨a, [u, w], rfl, h, rfl, u, [w], rfl, w, [], rfl, rfl, q⟩
theorem g_trip {a : Addr} {u w z : V} {i j l : Nat} {Q : L2.St → Hp → Prop} (h : SqT K H a [u, w, z]) (q : Q (((σ.set i (some u)).set j (some w)).set l (some z)) H) : gTup K 3 (gCons (gName i) (gCons (gName j) (gCons (gName l) gNil))) (.ref a) σ H Q :=
  ⟨a, [u, w, z], rfl, h, rfl, u, [w, z], rfl, w, [z], rfl, z, [], rfl, rfl, q⟩
/-- unpacking as a statement: a, b = e -/
theorem q_unpack2 {j : Nat} (h : ER te σ H R) (hR : ∀ v H1, Ex H H1 → R v H1 → ∃ a x y, v = .ref a ∧ SqT K H1 a [x, y] ∧ tz D ((σ.set i (some x)).set j (some y)) H1) :
    tSeq (tAsg te (gTup K 2 (gCons (gName i) (gCons (gName j) gNil)))) tz D σ H := h H (Ex.refl H) _ fun v H1 e r => by
  obtain ⟨a, x, y, rfl, hs, q⟩ := hR v H1 e r
  exact g_pair (Q := fun σ' H' => tz D σ' H') hs q
theorem len_snoc {α : Type} {P : Nat → α → Prop} {ys : List α} {y : α} (h : ∀ j z, ys[j]? = some z → P j z) (hy : P ys.length y) : ∀ j z, (ys ++ [y])[j]? = some z → P j z := fun j z hz => by
  rcases Nat.lt_trichotomy j ys.length with hj | hj | hj
  · rw [List.getElem?_append_left hj] at hz; exact h j z hz
  · subst hj; rw [List.getElem?_append_right (Nat.le_refl _), Nat.sub_self] at hz; cases hz; exact hy
  · rw [List.getElem?_append_right (Nat.le_of_lt hj)] at hz
    have : j - ys.length ≠ 0 := by omega
    cases hq : j - ys.length with
    | zero => exact absurd hq this
    | succ n => rw [hq] at hz; cases hz
/-- the tuples (and what is frozen) stay -/
def TEx (H H' : Hp) : Prop := ∀ a o, H a = some o → (match o with | .tup _ => True | .frz _ _ => True | _ => False) → H' a = some o
theorem Ex.t (e : Ex H H') : TEx H H' := fun a o h _ => e a o h
theorem TEx.refl (H : Hp) : TEx H H := fun _ _ h _ => h
theorem TEx.trans {H1 H2 H3 : Hp} (a : TEx H1 H2) (b : TEx H2 H3) : TEx H1 H3 := fun x o h c => b x o (a x o h c) c
theorem TEx.put {l : Addr} {xs ys : List V} (h : H l = some (.lst xs)) : TEx H (upd H l (.lst ys)) := fun a o e c => by
  by_cases hb : a = l
  · subst hb; rw [h] at e; cases e; exact c.elim
  · rw [upd_ne hb]; exact e
def MonoT (R : VP) : Prop := ∀ v H H', TEx H H' → R v H → R v H'
theorem MonoT.mono (m : MonoT R) : Mono R := fun v H H' e r => m v H H' (Ex.t e) r
theorem tex_sqt {a : Addr} {xs : List V} (e : TEx H H') (h : SqT K H a xs) : SqT K H' a xs := by
  rcases h with (h | ⟨o, h⟩) | h
  · exact .inl (.inl (e _ _ h trivial))
  · exact .inl (.inr ⟨o, e _ _ h trivial⟩)
  · exact .inr h
/-- what a comprehension has made behind i turns -/
def Made (H : Hp) (Dl : Addr) (Ri : Nat → VP) (i : Nat) (H' : Hp) : Prop := H Dl = none ∧ Ex H H' ∧ ∃ ys : List V, H' Dl = some (.lst ys) ∧ ys.length = i ∧ ∀ j y, ys[j]? = some y → Ri j y H'
theorem Made.turn {Dl : Addr} {Ri : Nat → VP} {i : Nat} {H2 : Hp} {y : V} (m : ∀ i, MonoT (Ri i)) (M : Made H Dl Ri i H') (hi : i < 100000) (e : Ex H' H2) (r : Ri i y H2) :
    ∃ acc, H2 Dl = some (.lst acc) ∧ acc.length < sizeLine ∧ Made H Dl Ri (i + 1) (upd H2 Dl (.lst (acc ++ [y]))) := by
  obtain ⟨h1, h2, ys, h3, h4, h5⟩ := M
  have t : TEx H2 (upd H2 Dl (.lst (ys ++ [y]))) := TEx.put (e Dl _ h3)
  refine ⟨ys, e Dl _ h3, sz_lt (by omega), h1, Ex.mut (h2.trans e) h1, ys ++ [y], upd_same, by rw [List.length_append, h4]; rfl, ?_⟩
  refine len_snoc (fun j z hz => m j z _ _ ((Ex.t e).trans t) (h5 j z hz)) ?_
  rw [h4]
  exact m i y _ _ t r
/-- the list that a comprehension gives: H the heap ahead -/
def LcR (S : List V → Hp → Prop) (R : List V → Nat → VP) (H : Hp) : VP := fun v H2 => ∃ p xs ys, v = .ref p ∧ H p = none ∧ H2 p = some (.lst ys) ∧ S xs H2 ∧ ys.length = xs.length ∧ ∀ (j : Nat) (y : V), ys[j]? = some y → R xs j y H2
theorem er_lcL {g : TG} {vs : List Nat} {S : List V → Hp → Prop} {R : List V → Nat → VP} (hsrc : ER tl σ H (fun v H2 => ∃ a xs, v = .ref a ∧ SqL K H2 a xs ∧ S xs H2)) (mS : MonoL S) (hz : ∀ xs H2, S xs H2 → xs.length < 100000) (m : ∀ xs i, MonoT (R xs i))
    (hb : ∀ xs i x H1, xs[i]? = some x → Ex H H1 → S xs H1 → ∀ Qk : VK, (∀ v H2, Ex H1 H2 → R xs i v H2 → Qk v H2) → g x (wipe σ vs) H1 fun σ2 H2 => wipe σ2 vs = wipe σ vs ∧ te σ2 H2 Qk) :
    ER (tLc (iList K tl) g tYes te vs) σ H (LcR S R H) := fun H0 e0 Q q => hsrc H0 e0 _ fun v H1 e1 ⟨a, xs, hv, ha, hS⟩ => ⟨a, hv, ⟨xs, ha⟩, fun Dl hD =>
  lc_list (xs := xs) (Made H1 Dl (R xs)) ⟨hD, Ex.new hD, [], upd_same, rfl, fun j y h => by simp at h⟩ (fun i H' _ p => ex_l p.2.1 ha)
    (fun i x H' hi M => hb xs i x H' hi ((e0.trans e1).trans M.2.1) (mS xs _ _ M.2.1 hS) _ fun y H2 e2 r => M.turn (m xs) (by have := (List.getElem?_eq_some_iff.mp hi).1; have := hz xs _ hS; omega) e2 r)
    (fun H' M => by
      obtain ⟨h1, h2, ys, h3, h4, h5⟩ := M
      exact q _ H' (e1.trans h2) ⟨Dl, xs, ys, rfl, fresh_back (e0.trans e1) h1, h3, mS xs _ _ h2 hS, h4, h5⟩)⟩
theorem er_lcT {g : TG} {vs : List Nat} {S : List V → Hp → Prop} {R : List V → Nat → VP} (hsrc : ER tl σ H (fun v H2 => ∃ a xs, v = .ref a ∧ SqT K H2 a xs ∧ S xs H2)) (mS : MonoL S) (hz : ∀ xs H2, S xs H2 → xs.length < 100000) (m : ∀ xs i, MonoT (R xs i))
    (hb : ∀ xs i x H1, xs[i]? = some x → Ex H H1 → S xs H1 → ∀ Qk : VK, (∀ v H2, Ex H1 H2 → R xs i v H2 → Qk v H2) → g x (wipe σ vs) H1 fun σ2 H2 => wipe σ2 vs = wipe σ vs ∧ te σ2 H2 Qk) :
    ER (tLc (iTup K tl) g tYes te vs) σ H (LcR S R H) := fun H0 e0 Q q => hsrc H0 e0 _ fun v H1 e1 ⟨a, xs, hv, ha, hS⟩ => ⟨a, hv, ⟨xs, ha⟩, fun Dl hD =>
  lc_tup (xs := xs) (Made H1 Dl (R xs)) ⟨hD, Ex.new hD, [], upd_same, rfl, fun j y h => by simp at h⟩ (fun i H' _ p => ex_t p.2.1 ha)
    (fun i x H' hi M => hb xs i x H' hi ((e0.trans e1).trans M.2.1) (mS xs _ _ M.2.1 hS) _ fun y H2 e2 r => M.turn (m xs) (by have := (List.getElem?_eq_some_iff.mp hi).1; have := hz xs _ hS; omega) e2 r)
    (fun H' M => by
      obtain ⟨h1, h2, ys, h3, h4, h5⟩ := M
      exact q _ H' (e1.trans h2) ⟨Dl, xs, ys, rfl, fresh_back (e0.trans e1) h1, h3, mS xs _ _ h2 hS, h4, h5⟩)⟩
end
end Sk
set_option Elab.async false
set_option linter.all false
set_option maxRecDepth 100000
set_option maxHeartbeats 2000000
namespace Sk
open PySem L2 Evl
def xAdd : R2 := rI0 fun i j => .int (i + j)
def xSub : R2 := rI0 fun i j => .int (i - j)
def xMul : R2 := rI CMul fun i j => .int (i * j)
def xMod : R2 := rI (fun _ j => 0 < j) fun i j => .int (i % j)
def xFdiv : R2 := rI CDiv fun i j => .int (i / j)
def xPow : R2 := rI CPow fun i j => .int (i ^ j.toNat)
def xShl : R2 := rI CPow fun i j => .int (i * 2 ^ j.toNat)
def xShr : R2 := rI (fun _ j => 0 ≤ j) fun i j => .int (i / 2 ^ j.toNat)
def xAndM : R2 := fun x y H Q => ∃ (i : Int) (k : Nat), x = .int i ∧ y = .int (2 ^ k - 1) ∧ Q (.int (i % 2 ^ k)) H
def xLt : R2 := rI0 fun i j => .bl (decide (i < j))
def xLe : R2 := rI0 fun i j => .bl (decide (i ≤ j))
def xGt : R2 := rI0 fun i j => .bl (decide (j < i))
def xGe : R2 := rI0 fun i j => .bl (decide (j ≤ i))
def xIsN : R2 := fun x y H Q => y = .non ∧ Q (.bl (decide (x = .non))) H
def xNotN : R2 := fun x y H Q => y = .non ∧ Q (.bl (!decide (x = .non))) H
def xNeg : V → Hp → VK → Prop := rU fun i => .int (-i)
def xInt1 : List V → Hp → VK → Prop := fun xs H Q => (∃ i, xs = [.int i] ∧ Q (.int i) H) ∨ ∃ k, xs = [.bl k] ∧ Q (.int (if k then 1 else 0)) H
def xMax2 : List V → Hp → VK → Prop := fun xs H Q => ∃ i j, xs = [.int i, .int j] ∧ Q (.int (if j > i then j else i)) H
def xAbs : List V → Hp → VK → Prop := fun xs H Q => ∃ i, xs = [.int i] ∧ Q (.int (if i < 0 then -i else i)) H
def tTruK (K : PySem.W.Frag) (ta : TE) : TT := fun σ H Q => ta σ H fun x H' => ∃ k, TruV K x H' k ∧ Q k H'
/-- a def of the module, where it stands -/
structure DefAt (K : PySem.W.Frag) (mg : Str → Option Value) (x : Str) (st : Stmt) (ps : List Str) (f : Addr) (fd : FuncData) : Prop where
  fn : Fun K x x st f fd
  m : mg x = some (.ref f)
  b : Binds K fd ps []
/-- an own error class, where it stands -/
structure ClsAt (K : PySem.W.Frag) (mg : Str → Option Value) (x : Str) (C : Addr) : Prop where
  m : mg x = some (.ref C)
  k : PySem.W.keepIn K (.ref C) = true
  sb : PySem.W.subIn K (.ref C) (.type "BaseException") = some true
  ty : PySem.W.typeIn K (.ref C) = some (.type "type")
  e : ExcC K C
/-- what of the errors' own words is told -/
def nameIn (K : PySem.W.Frag) (C : Addr) : Option Str := (PySem.W.clsIn K C).map (·.name)
def wordOf (x : Str) : Str := if x = "NotAllowed" then "refused" else if x = "BadForm" then "form" else if x = "BadRange" then "range" else if x = "TooLarge" then "large" else if x = "Missing" then "missing" else if x = "Ring" then "ring" else "steps"
/-- what a raised error carries -/
def ErrAt (K : PySem.W.Frag) (C d : Addr) (H : Hp) : Prop := ∃ x, nameIn K C = some x ∧ H d = some (.xd [("word", .str (wordOf x))])
theorem ErrAt.ex {K : PySem.W.Frag} {C d : Addr} {H H' : Hp} (h : ErrAt K C d H) (e : Ex H H') : ErrAt K C d H' := let ⟨x, h1, h2⟩ := h; ⟨x, h1, e _ _ h2⟩
/-- raise X('..') -/
def tRaise (K : PySem.W.Frag) (E : XK) (C : Addr) : TS := fun _ _ H => ∀ H', Ex H H' → ∀ d, ErrAt K C d H' → E (.ref C) (some d) H'
/-- isinstance(e, C), isinstance(e, (C1, C2)), e the error that the suite holds, with its dict -/
def Cau (D : Addr) (cls : Value) (d : Option Addr) (H : Hp) : Prop := cls = .ref D ∧ ∃ dd fs, d = some dd ∧ H dd = some (.xd fs)
theorem ErrAt.cau {K : PySem.W.Frag} {C d : Addr} {H : Hp} (h : ErrAt K C d H) : Cau C (.ref C) (some d) H := let ⟨_, _, h2⟩ := h; ⟨rfl, d, _, rfl, h2⟩
def rIsEc (K : PySem.W.Frag) (D a : Addr) (cls : Value) (d : Option Addr) : List V → Hp → VK → Prop := fun xs H Q => Cau D cls d H ∧ rIsE K D a xs H Q
theorem cau_at {X : Cx} {a D : Addr} {oe : Obj} {pn pins : List (Addr × Obj)} {cls : Value} {d : Option Addr} {σ : L2.St} {H : Hp} {s : Shared} (hz : Zc cls d oe) (hf : ∃ vs, oe.data = .fields vs) (I : Inv (X.suite a ((a, oe) :: pn)) pins σ H s) (h : Cau D cls d H) :
    ∃ od, PySem.W.InstAt s.heap a oe D (some od) := by
  obtain ⟨rfl, dd, fs, rfl, hd⟩ := h
  obtain ⟨mA, hns, -⟩ := (show ObjOk X.prog X.w H s.heap dd (.xd fs) from I.hok dd _ hd)
  obtain ⟨od, ho, -⟩ := lookIn_ns hns
  obtain ⟨vs, hv⟩ := hf
  exact ⟨od, (I.pin (a, oe) (List.mem_append.mpr (.inl List.mem_cons_self))).1, hz.1, (by unfold PySem.W.notCls; rw [hv] <;> rfl), (by rw [hz.2]; exact ho)⟩
theorem cau_kit {K : PySem.W.Frag} {D a : Addr} {oe od : Obj} (C : ExcC K D) : PySem.W.KitX K (.ref a) (.ref D) (fun h => PySem.W.InstAt h a oe D (some od)) :=
  PySem.W.kitx_exc (by obtain ⟨cd, hc, _⟩ := PySem.W.any_some C.hd; rw [hc]; rfl) C.hg C.hk C.hs C.ha C.hn C.ht C.hm
theorem call_isEc {X : Cx} {a D : Addr} {oe : Obj} {pn : List (Addr × Obj)} {cls : Value} {d : Option Addr} (C : ExcC X.K D) (hz : Zc cls d oe) (hf : ∃ vs, oe.data = .fields vs) : CallR (X.suite a ((a, oe) :: pn)) (.builtin "isinstance") (rIsEc X.K D a cls d) := by
  intro pins s σ H xs us Q I r h
  obtain ⟨hc, c, cv, b, rfl, hcv, e, q⟩ := h
  obtain ⟨u1, u2, rfl, r1, r2⟩ := vals2 r
  cases (show u1 = Value.ref a from r1)
  cases hcv _ r2
  obtain ⟨od, J⟩ := cau_at hz hf I hc
  exact PySem.W.kia_one (cau_kit C) I.kIn J e (fun z => nomatch z) fun tk => ⟨.bl b, H, I.kept (t' := tk) fun _ _ z => z, rfl, q⟩
section
variable {K : PySem.W.Frag} {σ : L2.St} {H H' : Hp} {ta tb te : TE} {i j : Int} {v : V} {t : TT} {x y : V} {D : Ends} {tz tu : TS}
theorem ev_add (ha : Ev ta σ H (.int i)) (hb : Ev tb σ H (.int j)) : Ev (tOp xAdd ta tb) σ H (.int (i + j)) := ev_op ha hb rv_I0
theorem ev_sub (ha : Ev ta σ H (.int i)) (hb : Ev tb σ H (.int j)) : Ev (tOp xSub ta tb) σ H (.int (i - j)) := ev_op ha hb rv_I0
theorem ev_mul (ha : Ev ta σ H (.int i)) (hb : Ev tb σ H (.int j)) (c : CMul i j) : Ev (tOp xMul ta tb) σ H (.int (i * j)) := ev_op ha hb (rv_I c)
theorem ev_mod (ha : Ev ta σ H (.int i)) (hb : Ev tb σ H (.int j)) (c : 0 < j) : Ev (tOp xMod ta tb) σ H (.int (i % j)) := ev_op ha hb (rv_I c)
theorem ev_fdiv (ha : Ev ta σ H (.int i)) (hb : Ev tb σ H (.int j)) (c : CDiv i j) : Ev (tOp xFdiv ta tb) σ H (.int (i / j)) := ev_op ha hb (rv_I c)
theorem ev_pow (ha : Ev ta σ H (.int i)) (hb : Ev tb σ H (.int j)) (c : CPow i j) : Ev (tOp xPow ta tb) σ H (.int (i ^ j.toNat)) := ev_op ha hb (rv_I c)
theorem ev_shl (ha : Ev ta σ H (.int i)) (hb : Ev tb σ H (.int j)) (c : CPow i j) : Ev (tOp xShl ta tb) σ H (.int (i * 2 ^ j.toNat)) := ev_op ha hb (rv_I c)
theorem ev_andM {k : Nat} (ha : Ev ta σ H (.int i)) (hb : Ev tb σ H (.int (2 ^ k - 1))) : Ev (tOp xAndM ta tb) σ H (.int (i % 2 ^ k)) := ev_op ha hb fun H1 _ Q q => ⟨i, k, rfl, rfl, q H1 (Ex.refl H1)⟩
theorem ev_lt (ha : Ev ta σ H (.int i)) (hb : Ev tb σ H (.int j)) : Ev (tOp xLt ta tb) σ H (.bl (decide (i < j))) := ev_op ha hb rv_I0
theorem ev_le (ha : Ev ta σ H (.int i)) (hb : Ev tb σ H (.int j)) : Ev (tOp xLe ta tb) σ H (.bl (decide (i ≤ j))) := ev_op ha hb rv_I0
theorem ev_gt (ha : Ev ta σ H (.int i)) (hb : Ev tb σ H (.int j)) : Ev (tOp xGt ta tb) σ H (.bl (decide (j < i))) := ev_op ha hb rv_I0
theorem ev_ge (ha : Ev ta σ H (.int i)) (hb : Ev tb σ H (.int j)) : Ev (tOp xGe ta tb) σ H (.bl (decide (j ≤ i))) := ev_op ha hb rv_I0
theorem ev_eq (ha : Ev ta σ H x) (hb : Ev tb σ H y) (h : scal x y = true) : Ev (tOp rEq ta tb) σ H (.bl (decide (x = y))) := ev_op ha hb (rv_eq h)
theorem ev_ne (ha : Ev ta σ H x) (hb : Ev tb σ H y) (h : scal x y = true) : Ev (tOp rNe ta tb) σ H (.bl (!decide (x = y))) := ev_op ha hb (rv_ne h)
theorem ev_isN (ha : Ev ta σ H x) : Ev (tOp xIsN ta (tC .non)) σ H (.bl (decide (x = .non))) := ev_op ha ev_c fun H1 _ Q q => ⟨rfl, q H1 (Ex.refl H1)⟩
theorem ev_notN (ha : Ev ta σ H x) : Ev (tOp xNotN ta (tC .non)) σ H (.bl (!decide (x = .non))) := ev_op ha ev_c fun H1 _ Q q => ⟨rfl, q H1 (Ex.refl H1)⟩
theorem ev_neg (ha : Ev ta σ H (.int i)) : Ev (tUn xNeg ta) σ H (.int (-i)) := ev_un ha ru_neg
theorem ev_int1 (ha : Ev ta σ H (.int i)) : Ev (tCB xInt1 (tCons ta tNil)) σ H (.int i) := ev_cb (ea_cons ha ea_nil) fun H1 _ Q q => .inl ⟨i, rfl, q H1 (Ex.refl H1)⟩
theorem ev_max (ha : Ev ta σ H (.int i)) (hb : Ev tb σ H (.int j)) : Ev (tCB xMax2 (tCons ta (tCons tb tNil))) σ H (.int (if j > i then j else i)) := ev_cb (ea_cons ha (ea_cons hb ea_nil)) fun H1 _ Q q => ⟨i, j, rfl, q H1 (Ex.refl H1)⟩
theorem ev_abs (ha : Ev ta σ H (.int i)) : Ev (tCB xAbs (tCons ta tNil)) σ H (.int (if i < 0 then -i else i)) := ev_cb (ea_cons ha ea_nil) fun H1 _ Q q => ⟨i, rfl, q H1 (Ex.refl H1)⟩
theorem ev_bits (ha : Ev ta σ H (.int i)) : Ev (tBits ta) σ H (.int ((Builtin.Int.intBits i : Nat) : Int)) := fun H1 e Q q => ha H1 e _ fun H2 e2 => ⟨i, rfl, q H2 e2⟩
theorem ev_at {a : Addr} {xs : List V} {k : Int} (ho : Ev ta σ H (.ref a)) (hi : Ev tb σ H (.int k)) (hs : SqL K H a xs) (ha : atI xs k = some v) : Ev (tOp (rIxL K) ta tb) σ H v := ev_op ho hi (rv_ixL hs ha)
theorem ev_atT {a : Addr} {xs : List V} {k : Int} (ho : Ev ta σ H (.ref a)) (hi : Ev tb σ H (.int k)) (hs : SqT K H a xs) (ha : atI xs k = some v) : Ev (tOp (rIxT K) ta tb) σ H v := ev_op ho hi (rv_ixT hs ha)
theorem ev_lenL {a : Addr} {xs : List V} (ho : Ev ta σ H (.ref a)) (hs : SqL K H a xs) : Ev (tCB (rLenS K) (tCons ta tNil)) σ H (.int (xs.length : Int)) := ev_len ho hs
theorem ev_lenT {a : Addr} {xs : List V} (ho : Ev ta σ H (.ref a)) (hs : SqT K H a xs) : Ev (tCB (rLenS K) (tCons ta tNil)) σ H (.int (xs.length : Int)) := ev_cb (ea_cons ho ea_nil) fun H1 e Q q => ⟨a, xs, rfl, .inr (ex_t e hs), q H1 (Ex.refl H1)⟩
theorem et_truL {a : Addr} {xs : List V} (ha : Ev ta σ H (.ref a)) (hs : SqL K H a xs) : EvT (tTruK K ta) σ H (!xs.isEmpty) := fun H1 e Q q => ha H1 e _ fun H2 e2 => ⟨_, .inl ⟨xs, ex_l (e.trans e2) hs, rfl⟩, q H2 e2⟩
theorem et_truT {a : Addr} {xs : List V} (ha : Ev ta σ H (.ref a)) (hs : SqT K H a xs) : EvT (tTruK K ta) σ H (!xs.isEmpty) := fun H1 e Q q => ha H1 e _ fun H2 e2 => ⟨_, .inr (.inl ⟨xs, ex_t (e.trans e2) hs, rfl⟩), q H2 e2⟩
end
theorem hu150 {A : Around} {k : Nat} (hr : Room k A) : A.units + 150 < cLine := by have := hr.un; omega
def rInN (K : PySem.W.Frag) : R2 := fun x y H Q => ∃ d ds, Dp K H x d ∧ Dp K H y (.tuple ds) ∧ d.canLay0 = true ∧ PyData.canLayAll0 ds = true ∧ PyData.depthAll ds ≤ 100 ∧ Q (.bl (ds.any fun z => PyData.eqv z d)) H
theorem op_inN {X : Cx} (hu : X.A.units + 150 < cLine) : OpR X (compareOp .In) (rInN X.K) := fun pins s σ H x y v u Q I rx ry ⟨d, ds, hd, he, sd, se, hz, q⟩ => by
  obtain ⟨as, r1⟩ := Dp.reads I d x v hd rx
  obtain ⟨bs, r2⟩ := Dp.reads I (.tuple ds) y u he ry
  exact SeqAt.in_tuple_reads r2 r1 se sd (by have := Nat.min_le_left (PyData.depthAll ds) d.depth; omega) ⟨.bl _, H, I, rfl, q⟩
def rIndexN (K : PySem.W.Frag) : V → List V → Hp → VK → Prop := fun x xs H Q => ∃ (a : Addr) (y : V) (d : PyData) (ds : List PyData) (j : Nat) (z : PyData), x = V.ref a ∧ xs = [y] ∧ Dp K H (V.ref a) (.tuple ds) ∧ Dp K H y d ∧
  PyData.canLayAll0 ds = true ∧ d.canLay0 = true ∧ PyData.depthAll ds ≤ 100 ∧ ds[j]? = some z ∧ PyData.eqv z d = true ∧ (∀ (m : Nat) (z' : PyData), m < j → ds[m]? = some z' → PyData.eqv z' d = false) ∧ Q (.int (j : Nat)) H
theorem mt_indexN {X : Cx} (hu : X.A.units + 150 < cLine) : MtR X "tuple.index" (rIndexN X.K) := by
  intro pins s σ H x xs v us Q I rx rxs h
  obtain ⟨a, y, d, ds, j, z, rfl, rfl, hl, hy, hxs, sd, hz0, hz, hzj, hno, q⟩ := h
  cases rx
  cases rxs with
  | cons ry rt =>
    rename_i uy ut
    cases rt
    obtain ⟨bs, r1⟩ := Dp.reads I d y uy hy ry
    have hroom : X.A.units + 1 + min (PyData.depthAll ds) d.depth < cLine := by have := Nat.min_le_left (PyData.depthAll ds) d.depth; omega
    cases hl with
    | tup hs ha =>
      obtain ⟨its, rv, pl, hlen⟩ := I.tuple hs
      obtain ⟨⟨cls, dd, data, sls⟩, ho, hc, n, hdt⟩ := pl
      simp only at hc hdt
      subst hc hdt
      obtain ⟨as, h4⟩ := Dp.readsAll I ds _ its ha rv
      have hn : its.length = ds.length := SeqAt.ReadsAll.length ds its as h4
      have hmap : its.map (SeqAt.readOf s.heap) = ds := SeqAt.readsAll_map ds its as hxs h4
      obtain ⟨hjd, _⟩ := List.getElem?_eq_some_iff.mp hz
      have hjl : j < its.length := by omega
      have hj : j < its.toArray.size := by simpa using hjl
      have at_ : ∀ (m : Nat) (hm : m < its.toArray.size) (z' : PyData), ds[m]? = some z' → SeqAt.readOf s.heap its.toArray[m] = z' := by
        intro m hm z' hz'
        have hml : m < its.length := by simpa using hm
        rw [← hmap, List.getElem?_map, List.getElem?_eq_getElem hml] at hz'
        have e1 : SeqAt.readOf s.heap its[m] = z' := Option.some.inj (show some (SeqAt.readOf s.heap its[m]) = some z' from hz')
        simpa using e1
      refine call_meets PySem.F.slot_tuple_index ⟨_, ho, rfl⟩ PySem.F.entry_tuple_index (PySem.F.args_tuple_index_2 _ _)
        (TI.tuple_indexAt a its.toArray n dd sls uy (fun u => PyData.eqv (SeqAt.readOf s.heap u) d) j hj ?_ ?_) ⟨ho, SeqAt.items_eqAt (vs := its.toArray) (show ReadsAll s.heap its.toArray.toList ds as from h4) r1 hxs sd hroom, ?_⟩
      · show PyData.eqv (SeqAt.readOf s.heap its.toArray[j]) d = true
        rw [at_ j hj z hz]
        exact hzj
      · intro m hm hmj
        have hmd : m < ds.length := by omega
        have hz' : ds[m]? = some ds[m] := List.getElem?_eq_getElem hmd
        show PyData.eqv (SeqAt.readOf s.heap its.toArray[m]) d = false
        rw [at_ m hm _ hz']
        exact hno m _ hmj hz'
      · exact ⟨.int (j : Nat), H, I.tok _, ⟨_, rfl⟩, q⟩
end Sk
namespace Sk
inductive T where
  | nil
  | cons (s : Int) (e : T) (r : T)
  deriving DecidableEq, Repr
/-- the signed places of an integer, the least first -/
def naf (n : Int) (p : Nat) : List (Int × Nat) :=
  if h : n = 0 then [] else if h2 : n % 2 = 1 then (2 - n % 4, p) :: naf ((n - (2 - n % 4)) / 2) (p + 1) else naf (n / 2) (p + 1)
termination_by n.natAbs
decreasing_by all_goals omega
theorem naf_zero (p : Nat) : naf 0 p = [] := by rw [naf]; simp
theorem naf_odd {n : Int} (h : n % 2 = 1) (p : Nat) : naf n p = (2 - n % 4, p) :: naf ((n - (2 - n % 4)) / 2) (p + 1) := by
  rw [naf, dif_neg (by omega), dif_pos h]
theorem naf_even {n : Int} (h : n % 2 = 0) (p : Nat) : naf n p = naf (n / 2) (p + 1) := by
  by_cases h0 : n = 0
  · subst h0; rw [naf_zero]; show _ = naf 0 _; rw [naf_zero]
  · rw [naf, dif_neg h0, dif_neg (by omega)]
/-- every place of n lies below: 2 ^ (q - p) ≤ 2 |n| - 1 -/
theorem naf_mem_ge : ∀ (k : Nat) (n : Int), n.natAbs ≤ k → ∀ (p : Nat) (x : Int × Nat), x ∈ naf n p → p ≤ x.2 ∧ 2 ^ (x.2 - p) + 1 ≤ 2 * n.natAbs ∧ (x.1 = 1 ∨ x.1 = -1)
  | 0, n, hk, p, x, hx => by
    have : n = 0 := by omega
    subst this; rw [naf_zero] at hx; cases hx
  | k + 1, n, hk, p, x, hx => by
    by_cases h0 : n = 0
    · subst h0; rw [naf_zero] at hx; cases hx
    rcases Int.emod_two_eq n with h | h
    · rw [naf_even h] at hx
      obtain ⟨h1, h2, h3⟩ := naf_mem_ge k (n / 2) (by omega) (p + 1) x hx
      refine ⟨by omega, ?_, h3⟩
      have e : x.2 - p = (x.2 - (p + 1)) + 1 := by omega
      rw [e, Nat.pow_succ]
      omega
    · rw [naf_odd h] at hx
      rcases List.mem_cons.mp hx with rfl | hx
      · have : n.natAbs ≥ 1 := by omega
        refine ⟨Nat.le_refl _, ?_, by show 2 - n % 4 = 1 ∨ 2 - n % 4 = -1; omega⟩
        show 2 ^ (p - p) + 1 ≤ _
        rw [Nat.sub_self]
        omega
      · by_cases hz : (n - (2 - n % 4)) / 2 = 0
        · rw [hz, naf_zero] at hx; cases hx
        have hev : (n - (2 - n % 4)) / 2 % 2 = 0 := by omega
        rw [naf_even hev] at hx
        obtain ⟨h1, h2, h3⟩ := naf_mem_ge k ((n - (2 - n % 4)) / 2 / 2) (by omega) (p + 1 + 1) x hx
        refine ⟨by omega, ?_, h3⟩
        have e : x.2 - p = (x.2 - (p + 1 + 1)) + 1 + 1 := by omega
        rw [e, Nat.pow_succ, Nat.pow_succ]
        omega
theorem naf_place {n : Int} {x : Int × Nat} (h : x ∈ naf n 0) : 2 ^ x.2 + 1 ≤ 2 * n.natAbs := by
  have := (naf_mem_ge n.natAbs n (Nat.le_refl _) 0 x h).2.1
  simpa using this
theorem naf_sign {n : Int} {x : Int × Nat} (h : x ∈ naf n 0) : x.1 = 1 ∨ x.1 = -1 := (naf_mem_ge n.natAbs n (Nat.le_refl _) 0 x h).2.2
theorem naf_lt {n : Int} {x : Int × Nat} (h : x ∈ naf n 0) : x.2 < n.natAbs := by
  have h1 := naf_place h
  have h2 : x.2 < 2 ^ x.2 := Nat.lt_two_pow_self
  rcases Nat.eq_zero_or_pos x.2 with h3 | h3
  · rw [h3] at h1; simp at h1; omega
  · have h4 : 2 * x.2 ≤ 2 ^ x.2 := by
      have : x.2 = (x.2 - 1) + 1 := by omega
      have h5 : x.2 - 1 < 2 ^ (x.2 - 1) := Nat.lt_two_pow_self
      rw [this, Nat.pow_succ]
      omega
    omega
/-- |n| ≤ 2 ^ m: the places are at most m -/
theorem naf_le {n : Int} {m : Nat} (hn : n.natAbs ≤ 2 ^ m) {x : Int × Nat} (h : x ∈ naf n 0) : x.2 ≤ m := by
  have h1 := naf_place h
  apply Nat.le_of_not_lt
  intro h2
  have h3 : 2 ^ (m + 1) ≤ 2 ^ x.2 := Nat.pow_le_pow_right (by decide) h2
  rw [Nat.pow_succ] at h3
  omega
def ofL : List (Int × T) → T
  | [] => .nil
  | (s, e) :: r => .cons s e (ofL r)
def T.toL : T → List (Int × T)
  | .nil => []
  | .cons s e r => (s, e) :: r.toL
theorem toL_ofL : ∀ l, (ofL l).toL = l
  | [] => rfl
  | (s, e) :: r => by rw [ofL, T.toL, toL_ofL r]
theorem ofL_toL : ∀ t : T, ofL t.toL = t
  | .nil => rfl
  | .cons s e r => by rw [T.toL, ofL, ofL_toL r]
/-- the number for an integer -/
def toT (n : Int) : T := ofL ((naf n 0).reverse.attach.map fun x => (x.1.1, toT (x.1.2 : Int)))
termination_by n.natAbs
decreasing_by
  have h := naf_lt (List.mem_reverse.mp x.2)
  simpa using h
theorem toT_eq (n : Int) : toT n = ofL ((naf n 0).reverse.map fun x => (x.1, toT (x.2 : Int))) := by
  rw [toT]
  congr 1
  exact List.attach_map_val (l := (naf n 0).reverse) (f := fun x : Int × Nat => (x.1, toT (x.2 : Int)))
def T.val : T → Int
  | .nil => 0
  | .cons s e r => s * 2 ^ e.val.toNat + r.val
def sumP : List (Int × Nat) → Int
  | [] => 0
  | (s, p) :: r => s * 2 ^ p + sumP r
theorem sumP_append : ∀ a b, sumP (a ++ b) = sumP a + sumP b
  | [], b => by simp [sumP]
  | (s, p) :: r, b => by rw [List.cons_append, sumP, sumP, sumP_append r b]; omega
theorem sumP_reverse : ∀ a, sumP a.reverse = sumP a
  | [] => rfl
  | (s, p) :: r => by rw [List.reverse_cons, sumP_append, sumP_reverse r, sumP, sumP, sumP]; omega
theorem naf_sum : ∀ (k : Nat) (n : Int), n.natAbs ≤ k → ∀ p, sumP (naf n p) = n * 2 ^ p
  | 0, n, hk, p => by
    have : n = 0 := by omega
    subst this; rw [naf_zero]; simp [sumP]
  | k + 1, n, hk, p => by
    by_cases h0 : n = 0
    · subst h0; rw [naf_zero]; simp [sumP]
    rcases Int.emod_two_eq n with h | h
    · rw [naf_even h, naf_sum k (n / 2) (by omega), Int.pow_succ, Int.mul_comm (2 ^ p) 2, ← Int.mul_assoc]
      congr 1
      omega
    · rw [naf_odd h, sumP]
      have h4 : n % 4 = 1 ∨ n % 4 = 3 := by omega
      have hs : sumP (naf ((n - (2 - n % 4)) / 2) (p + 1)) = ((n - (2 - n % 4)) / 2) * 2 ^ (p + 1) := by
        by_cases hz : (n - (2 - n % 4)) / 2 = 0
        · rw [hz, naf_zero]; simp [sumP]
        · exact naf_sum k _ (by omega) _
      rw [hs, Int.pow_succ, Int.mul_comm (2 ^ p) 2, ← Int.mul_assoc, ← Int.add_mul]
      congr 1
      omega
theorem val_ofL (l : List (Int × T)) : (ofL l).val = (l.map fun x => x.1 * 2 ^ x.2.val.toNat).sum := by
  induction l with
  | nil => rfl
  | cons x r ih => obtain ⟨s, e⟩ := x; rw [ofL, T.val, ih, List.map_cons, List.sum_cons]
theorem toT_val_aux : ∀ (k : Nat) (n : Int), n.natAbs ≤ k → (toT n).val = n
  | 0, n, hk => by
    have : n = 0 := by omega
    subst this; rw [toT_eq, naf_zero]; rfl
  | k + 1, n, hk => by
    rw [toT_eq, val_ofL, List.map_map]
    have h : ∀ l : List (Int × Nat), (∀ x ∈ l, x.2 < n.natAbs) → (l.map ((fun x : Int × T => x.1 * 2 ^ x.2.val.toNat) ∘ fun x : Int × Nat => (x.1, toT (x.2 : Int)))).sum = sumP l := by
      intro l
      induction l with
      | nil => intro _; rfl
      | cons x r ih =>
        intro hl
        obtain ⟨s, p⟩ := x
        rw [List.map_cons, List.sum_cons, ih fun y hy => hl y (List.mem_cons_of_mem _ hy), sumP]
        have hp := hl (s, p) List.mem_cons_self
        show s * 2 ^ (toT (p : Int)).val.toNat + _ = _
        rw [toT_val_aux k (p : Int) (by simp at hp ⊢; omega)]
        rfl
    rw [h _ fun x hx => naf_lt (List.mem_reverse.mp hx), sumP_reverse, naf_sum n.natAbs n (Nat.le_refl _) 0]
    simp
theorem toT_val (n : Int) : (toT n).val = n := toT_val_aux n.natAbs n (Nat.le_refl _)
/-- how many figures: the model's bit_length -/
def bl (n : Nat) : Nat := if n = 0 then 0 else n.log2 + 1
theorem lt_bl (n : Nat) : n < 2 ^ bl n := by
  unfold bl
  split
  · rename_i h; subst h; decide
  · rename_i h; exact Nat.lt_log2_self
/-- value_within -/
def T.within : T → Nat → Option Int
  | .nil, _ => some 0
  | .cons s e r, b => match e.within (bl b) with
    | none => none
    | some p => if p > (b : Int) then none else (r.within b).map (s * 2 ^ p.toNat + ·)
theorem within_val : ∀ (t : T) (b : Nat) (q : Int), t.within b = some q → q = t.val
  | .nil, b, q, h => by injection h with h; exact h.symm
  | .cons s e r, b, q, h => by
    rw [T.within] at h
    cases he : e.within (bl b) with
    | none => rw [he] at h; cases h
    | some p =>
      rw [he] at h
      simp only at h
      split at h
      · cases h
      · cases hr : r.within b with
        | none => rw [hr] at h; cases h
        | some z =>
          rw [hr] at h
          injection h with h
          rw [T.val, ← within_val e _ _ he, ← within_val r _ _ hr]
          exact h.symm
theorem within_ofL (b : Nat) : ∀ l : List (Int × Nat), (∀ x ∈ l, (toT (x.2 : Int)).within (bl b) = some (x.2 : Int) ∧ x.2 ≤ b) →
    (ofL (l.map fun x => (x.1, toT (x.2 : Int)))).within b = some (sumP l)
  | [], _ => rfl
  | (s, p) :: r, h => by
    obtain ⟨h1, h2⟩ := h (s, p) List.mem_cons_self
    rw [List.map_cons, ofL, T.within]
    have h1' : (toT (p : Int)).within (bl b) = some (p : Int) := h1
    rw [h1']
    simp only
    rw [if_neg (by have : p ≤ b := h2; omega), within_ofL b r fun x hx => h x (List.mem_cons_of_mem _ hx)]
    simp [sumP]
theorem within_small : ∀ (k : Nat) (n : Nat), n ≤ k → ∀ b : Nat, n ≤ b → (toT (n : Int)).within (bl b) = some (n : Int)
  | 0, n, hk, b, hb => by
    have : n = 0 := by omega
    subst this; rw [toT_eq]; show (ofL (List.map _ (naf 0 0).reverse)).within _ = _; rw [naf_zero]; rfl
  | k + 1, n, hk, b, hb => by
    rw [toT_eq, within_ofL]
    · rw [sumP_reverse, naf_sum _ _ (Nat.le_refl _)]; simp
    · intro x hx
      have hx := List.mem_reverse.mp hx
      have h1 := naf_lt hx
      have h2 : x.2 ≤ bl b := naf_le (n := (n : Int)) (m := bl b) (by have := lt_bl b; simp; omega) hx
      exact ⟨within_small k x.2 (by simp at h1; omega) (bl b) h2, h2⟩
def T.size : T → Nat
  | .nil => 1
  | .cons _ e r => e.size + r.size
def T.height : T → Nat
  | .nil => 0
  | .cons _ e r => max (e.height + 1) r.height
def T.fits (t : T) : Prop := t.size ≤ 300 ∧ t.height ≤ 40
def T.sgn : T → Int
  | .nil => 0
  | .cons s _ _ => s
instance (t : T) : Decidable t.fits := by unfold T.fits; exact inferInstance
end Sk
set_option Elab.async false
set_option linter.all false
set_option maxRecDepth 100000
set_option maxHeartbeats 2000000
namespace Sk
open PySem L2 Evl
def T.items : T → List PyData
  | .nil => []
  | .cons s e r => .tuple [.int s, .tuple e.items] :: r.items
def T.data (t : T) : PyData := .tuple t.items
/-- v is the number t -/
def NumV (K : PySem.W.Frag) (H : Hp) (v : V) (t : T) : Prop := Dp K H v t.data
/-- the terms of t -/
def TermsV (K : PySem.W.Frag) (H : Hp) (xs : List V) (t : T) : Prop := DpAll K H xs t.items
section
variable {K : PySem.W.Frag} {H H' : Hp} {v : V} {t : T}
theorem NumV.out (h : NumV K H v t) : ∃ a xs, v = .ref a ∧ SqT K H a xs ∧ TermsV K H xs t := by
  cases h with
  | tup h1 h2 => exact ⟨_, _, rfl, h1, h2⟩
theorem NumV.mk {a : Addr} {xs : List V} (h1 : SqT K H a xs) (h2 : TermsV K H xs t) : NumV K H (.ref a) t := L2.Dp.tup h1 h2
theorem TermsV.nil_out {xs : List V} (h : TermsV K H xs .nil) : xs = [] := by cases h; rfl
theorem TermsV.nil : TermsV K H [] .nil := L2.DpAll.nil
theorem TermsV.cons_out {xs : List V} {s : Int} {e r : T} (h : TermsV K H xs (.cons s e r)) : ∃ p w ys, xs = .ref p :: ys ∧ SqT K H p [.int s, w] ∧ NumV K H w e ∧ TermsV K H ys r := by
  cases h with
  | cons h1 h2 =>
    cases h1 with
    | tup g1 g2 =>
      cases g2 with
      | cons k1 k2 =>
        cases k1
        cases k2 with
        | cons l1 l2 =>
          cases l2
          exact ⟨_, _, _, rfl, g1, l1, h2⟩
theorem TermsV.cons {p : Addr} {w : V} {ys : List V} {s : Int} {e r : T} (h1 : SqT K H p [.int s, w]) (h2 : NumV K H w e) (h3 : TermsV K H ys r) : TermsV K H (.ref p :: ys) (.cons s e r) :=
  L2.DpAll.cons (L2.Dp.tup h1 (L2.DpAll.cons (L2.Dp.int s) (L2.DpAll.cons h2 L2.DpAll.nil))) h3
theorem TermsV.tex : ∀ {t : T} {xs : List V}, TermsV K H xs t → TEx H H' → TermsV K H' xs t
  | .nil, xs, h, _ => by rw [h.nil_out]; exact TermsV.nil
  | .cons s e r, xs, h, k => by
    obtain ⟨p, w, ys, rfl, h1, h2, h3⟩ := h.cons_out
    obtain ⟨a, zs, rfl, g1, g2⟩ := h2.out
    exact TermsV.cons (tex_sqt k h1) (NumV.mk (tex_sqt k g1) (TermsV.tex g2 k)) (TermsV.tex h3 k)
theorem NumV.tex (h : NumV K H v t) (e : TEx H H') : NumV K H' v t := by
  obtain ⟨a, zs, rfl, g1, g2⟩ := h.out
  exact NumV.mk (tex_sqt e g1) (g2.tex e)
theorem NumV.ex (h : NumV K H v t) (e : Ex H H') : NumV K H' v t := h.tex (Ex.t e)
theorem TermsV.ex {xs : List V} (h : TermsV K H xs t) (e : Ex H H') : TermsV K H' xs t := h.tex (Ex.t e)
theorem numT : MonoT (fun v H => NumV K H v t) := fun v H H' e h => NumV.tex h e
theorem TermsV.len : ∀ {t : T} {xs : List V}, TermsV K H xs t → xs.length = t.toL.length
  | .nil, xs, h => by rw [h.nil_out]; rfl
  | .cons s e r, xs, h => by
    obtain ⟨p, w, ys, rfl, _, _, h3⟩ := h.cons_out
    show ys.length + 1 = r.toL.length + 1
    rw [TermsV.len h3]
/-- term by term -/
theorem TermsV.get : ∀ {t : T} {xs : List V} {i : Nat} {x : V}, TermsV K H xs t → xs[i]? = some x → ∃ p s e w, x = .ref p ∧ t.toL[i]? = some (s, e) ∧ SqT K H p [.int s, w] ∧ NumV K H w e
  | .nil, xs, i, x, h, e => by rw [h.nil_out] at e; simp at e
  | .cons s e r, xs, 0, x, h, q => by
    obtain ⟨p, w, ys, rfl, h1, h2, h3⟩ := h.cons_out
    simp at q; subst q
    exact ⟨p, s, e, w, rfl, rfl, h1, h2⟩
  | .cons s e r, xs, i + 1, x, h, q => by
    obtain ⟨p, w, ys, rfl, h1, h2, h3⟩ := h.cons_out
    simp at q
    obtain ⟨p', s', e', w', g1, g2, g3, g4⟩ := TermsV.get h3 q
    exact ⟨p', s', e', w', g1, g2, g3, g4⟩
/-- terms from their parts -/
theorem TermsV.of : ∀ {l : List (Int × T)} {xs : List V}, xs.length = l.length → (∀ (i : Nat) (x : V) (s : Int) (e : T), xs[i]? = some x → l[i]? = some (s, e) → ∃ p w, x = V.ref p ∧ SqT K H p [V.int s, w] ∧ NumV K H w e) → TermsV K H xs (ofL l)
  | [], [], _, _ => L2.DpAll.nil
  | [], _ :: _, h, _ => by simp at h
  | _ :: _, [], h, _ => by simp at h
  | (s, e) :: l, x :: xs, h, k => by
    obtain ⟨p, w, rfl, h1, h2⟩ := k 0 x s e rfl rfl
    exact TermsV.cons h1 h2 (TermsV.of (by simpa using h) fun i x s e h1 h2 => k (i + 1) x s e (by simpa using h1) (by simpa using h2))
end
end Sk
set_option Elab.async false
set_option linter.all false
set_option maxRecDepth 100000
set_option maxHeartbeats 2000000
namespace Sk
open PySem L2 Evl
def spF0 (P : Hp → VP → Prop) : Sp := fun vs H Q _ => ∃ R, vs = [] ∧ P H R ∧ ∀ v H', Ex H H' → R v H' → Q v H'
def spF1 (P : V → Hp → VP → Prop) : Sp := fun vs H Q _ => ∃ x R, vs = [x] ∧ P x H R ∧ ∀ v H', Ex H H' → R v H' → Q v H'
def spF2 (P : V → V → Hp → VP → Prop) : Sp := fun vs H Q _ => ∃ x y R, vs = [x, y] ∧ P x y H R ∧ ∀ v H', Ex H H' → R v H' → Q v H'
def spF3 (P : V → V → V → Hp → VP → Prop) : Sp := fun vs H Q _ => ∃ x y z R, vs = [x, y, z] ∧ P x y z H R ∧ ∀ v H', Ex H H' → R v H' → Q v H'
def spF4 (P : V → V → V → V → Hp → VP → Prop) : Sp := fun vs H Q _ => ∃ x y z u R, vs = [x, y, z, u] ∧ P x y z u H R ∧ ∀ v H', Ex H H' → R v H' → Q v H'
abbrev WP := Addr → Prop
def spX1 (K : PySem.W.Frag) (P : V → Hp → VP → WP → Prop) : Sp := fun vs H Q E => ∃ x R W, vs = [x] ∧ P x H R W ∧ (∀ v H', Ex H H' → R v H' → Q v H') ∧ ∀ C H', Ex H H' → W C → ∀ d, ErrAt K C d H' → E (.ref C) (some d) H'
def spX2 (K : PySem.W.Frag) (P : V → V → Hp → VP → WP → Prop) : Sp := fun vs H Q E => ∃ x y R W, vs = [x, y] ∧ P x y H R W ∧ (∀ v H', Ex H H' → R v H' → Q v H') ∧ ∀ C H', Ex H H' → W C → ∀ d, ErrAt K C d H' → E (.ref C) (some d) H'
def spX3 (K : PySem.W.Frag) (P : V → V → V → Hp → VP → WP → Prop) : Sp := fun vs H Q E => ∃ x y z R W, vs = [x, y, z] ∧ P x y z H R W ∧ (∀ v H', Ex H H' → R v H' → Q v H') ∧ ∀ C H', Ex H H' → W C → ∀ d, ErrAt K C d H' → E (.ref C) (some d) H'
section
variable {K : PySem.W.Frag} {vs : List V} {H : Hp} {Q : VK} {E : XK} {R : VP} {W : WP} {x y z u : V}
theorem spF1.len {P} (h : spF1 P vs H Q E) : vs.length = 1 := by obtain ⟨x, R, rfl, _⟩ := h; rfl
theorem spF2.len {P} (h : spF2 P vs H Q E) : vs.length = 2 := by obtain ⟨x, y, R, rfl, _⟩ := h; rfl
theorem spF3.len {P} (h : spF3 P vs H Q E) : vs.length = 3 := by obtain ⟨x, y, z, R, rfl, _⟩ := h; rfl
theorem spF4.len {P} (h : spF4 P vs H Q E) : vs.length = 4 := by obtain ⟨x, y, z, u, R, rfl, _⟩ := h; rfl
theorem spX1.len {P} (h : spX1 K P vs H Q E) : vs.length = 1 := by obtain ⟨x, R, W, rfl, _⟩ := h; rfl
theorem spX2.len {P} (h : spX2 K P vs H Q E) : vs.length = 2 := by obtain ⟨x, y, R, W, rfl, _⟩ := h; rfl
theorem spX3.len {P} (h : spX3 K P vs H Q E) : vs.length = 3 := by obtain ⟨x, y, z, R, W, rfl, _⟩ := h; rfl
theorem sr1 {P} (h : P x H R) : SR (spF1 P) [x] H R := fun Q E q => ⟨x, R, rfl, h, q⟩
theorem sr2 {P} (h : P x y H R) : SR (spF2 P) [x, y] H R := fun Q E q => ⟨x, y, R, rfl, h, q⟩
theorem sr3 {P} (h : P x y z H R) : SR (spF3 P) [x, y, z] H R := fun Q E q => ⟨x, y, z, R, rfl, h, q⟩
theorem sr4 {P} (h : P x y z u H R) : SR (spF4 P) [x, y, z, u] H R := fun Q E q => ⟨x, y, z, u, R, rfl, h, q⟩
/-- a call that may raise, where nothing is raised -/
theorem srx1 {P} (h : P x H R fun _ => False) : SR (spX1 K P) [x] H R := fun Q E q => ⟨x, R, _, rfl, h, q, fun _ _ _ z => z.elim⟩
end
section
variable {K : PySem.W.Frag} {σ : L2.St} {H : Hp} {te tf tg : TE} {R R1 R2 R3 : VP} {E : XK} {D : Ends} {tz tu : TS} {t : TT} {i : Nat}
theorem er_call1 {P} (h : ER te σ H R1) (m : Mono R1) (k : ∀ v H1, Ex H H1 → R1 v H1 → P v H1 R) : ER (tCall (spF1 P) [] E (tCons te tNil)) σ H R :=
  er_call (ea_one h m) fun vs H1 e ⟨v, hv, r⟩ => by rw [hv]; exact sr1 (k v H1 e r)
theorem er_call2 {P} (h : ER te σ H R1) (m : Mono R1) (h' : ER tf σ H R2) (m' : Mono R2) (k : ∀ v w H1, Ex H H1 → R1 v H1 → R2 w H1 → P v w H1 R) : ER (tCall (spF2 P) [] E (tCons te (tCons tf tNil))) σ H R :=
  er_call (ea_two h m h' m') fun vs H1 e ⟨v, w, hv, r, r'⟩ => by rw [hv]; exact sr2 (k v w H1 e r r')
theorem er_call3 {P} (h : ER te σ H R1) (m : Mono R1) (h' : ER tf σ H R2) (m' : Mono R2) (h'' : ER tg σ H R3) (m'' : Mono R3) (k : ∀ v w z H1, Ex H H1 → R1 v H1 → R2 w H1 → R3 z H1 → P v w z H1 R) : ER (tCall (spF3 P) [] E (tCons te (tCons tf (tCons tg tNil)))) σ H R :=
  er_call (ea_three h m h' m' h'' m'') fun vs H1 e ⟨v, w, z, hv, r, r', r''⟩ => by rw [hv]; exact sr3 (k v w z H1 e r r' r'')
/-- a call that may raise -/
theorem x_call1 {P : V → Hp → VP → WP → Prop} (h : ER te σ H R1) (m : Mono R1) (Q : VK) (k : ∀ v H1, Ex H H1 → R1 v H1 → ∃ R W, P v H1 R W ∧ (∀ w H2, Ex H1 H2 → R w H2 → Q w H2) ∧ ∀ C H2, Ex H1 H2 → W C → ∀ d, ErrAt K C d H2 → E (.ref C) (some d) H2) : tCall (spX1 K P) [] E (tCons te tNil) σ H Q :=
  ea_one h m H (Ex.refl H) _ fun vs H1 e ⟨v, hv, r⟩ => by
    subst hv
    obtain ⟨R, W, h1, h2, h3⟩ := k v H1 e r
    exact ⟨v, R, W, rfl, h1, h2, h3⟩
theorem x_call2 {P : V → V → Hp → VP → WP → Prop} (h : ER te σ H R1) (m : Mono R1) (h' : ER tf σ H R2) (m' : Mono R2) (Q : VK) (k : ∀ v v' H1, Ex H H1 → R1 v H1 → R2 v' H1 → ∃ R W, P v v' H1 R W ∧ (∀ w H2, Ex H1 H2 → R w H2 → Q w H2) ∧ ∀ C H2, Ex H1 H2 → W C → ∀ d, ErrAt K C d H2 → E (.ref C) (some d) H2) : tCall (spX2 K P) [] E (tCons te (tCons tf tNil)) σ H Q :=
  ea_two h m h' m' H (Ex.refl H) _ fun vs H1 e ⟨v, v', hv, r, r'⟩ => by
    subst hv
    obtain ⟨R, W, h1, h2, h3⟩ := k v v' H1 e r r'
    exact ⟨v, v', R, W, rfl, h1, h2, h3⟩
/-- the same in a try (the wish is told by the slots) -/
theorem xs_call1 {P : V → Hp → VP → WP → Prop} {ES : L2.St → XK} (h : ER te σ H R1) (m : Mono R1) (Q : VK) (k : ∀ v H1, Ex H H1 → R1 v H1 → ∃ R W, P v H1 R W ∧ (∀ w H2, Ex H1 H2 → R w H2 → Q w H2) ∧ ∀ C H2, Ex H1 H2 → W C → ∀ d, ErrAt K C d H2 → ES σ (.ref C) (some d) H2) : tCallS (spX1 K P) ES (tCons te tNil) σ H Q :=
  ea_one h m H (Ex.refl H) _ fun vs H1 e ⟨v, hv, r⟩ => by
    subst hv
    obtain ⟨R, W, h1, h2, h3⟩ := k v H1 e r
    exact ⟨v, R, W, rfl, h1, h2, h3⟩
theorem xs_call2 {P : V → V → Hp → VP → WP → Prop} {ES : L2.St → XK} (h : ER te σ H R1) (m : Mono R1) (h' : ER tf σ H R2) (m' : Mono R2) (Q : VK) (k : ∀ v v' H1, Ex H H1 → R1 v H1 → R2 v' H1 → ∃ R W, P v v' H1 R W ∧ (∀ w H2, Ex H1 H2 → R w H2 → Q w H2) ∧ ∀ C H2, Ex H1 H2 → W C → ∀ d, ErrAt K C d H2 → ES σ (.ref C) (some d) H2) : tCallS (spX2 K P) ES (tCons te (tCons tf tNil)) σ H Q :=
  ea_two h m h' m' H (Ex.refl H) _ fun vs H1 e ⟨v, v', hv, r, r'⟩ => by
    subst hv
    obtain ⟨R, W, h1, h2, h3⟩ := k v v' H1 e r r'
    exact ⟨v, v', R, W, rfl, h1, h2, h3⟩
theorem monoC {P : V → Prop} : Mono (fun v _ => P v) := fun _ _ _ _ h => h
theorem monoTC {P : V → Prop} : MonoT (fun v _ => P v) := fun _ _ _ _ h => h
/-- while: a word that falls -/
theorem q_while' (W : Nat → L2.St → Hp → Prop) (m0 : Nat) (h0 : W m0 σ H)
    (hs : ∀ m σ' H', W m σ' H' → ∃ b, EvT t σ' H' b ∧ (b = true → ∀ H1, Ex H' H1 → tu { D with nx := fun σ2 H2 => ∃ m', m' < m ∧ W m' σ2 H2, ct := fun σ2 H2 => ∃ m', m' < m ∧ W m' σ2 H2, bk := tz D } σ' H1) ∧ (b = false → ∀ H1, Ex H' H1 → tz D σ' H1)) : tSeq (tWhile t tu) tz D σ H :=
  q_while W m0 h0 fun m σ' H' w => by
    obtain ⟨b, h1, h2, h3⟩ := hs m σ' H' w
    exact ⟨b, h1, fun hb H1 e => ⟨fun σ2 H2 => ∃ m', m' < m ∧ W m' σ2 H2, fun _ _ z => z, h2 hb H1 e⟩, h3⟩
end
end Sk
namespace Sk
open PySem L2 Evl
def ItemsR {α : Type} (R : α → VP) (l : List α) (ys : List V) (H : Hp) : Prop := ys.length = l.length ∧ ∀ (i : Nat) (y : V) (a : α), ys[i]? = some y → l[i]? = some a → R a y H
section
variable {α : Type} {R R' : α → VP} {l l' : List α} {ys zs : List V} {H H' : Hp}
theorem ItemsR.nil : ItemsR R [] [] H := ⟨rfl, fun i y a h => by simp at h⟩
theorem ItemsR.tex (m : ∀ a, MonoT (R a)) (h : ItemsR R l ys H) (e : TEx H H') : ItemsR R l ys H' := ⟨h.1, fun i y a h1 h2 => m a y H H' e (h.2 i y a h1 h2)⟩
theorem ItemsR.ex (m : ∀ a, Mono (R a)) (h : ItemsR R l ys H) (e : Ex H H') : ItemsR R l ys H' := ⟨h.1, fun i y a h1 h2 => m a y H H' e (h.2 i y a h1 h2)⟩
theorem ItemsR.snoc {a : α} {y : V} (h : ItemsR R l ys H) (hy : R a y H) : ItemsR R (l ++ [a]) (ys ++ [y]) H := by
  refine ⟨by rw [List.length_append, List.length_append, h.1]; rfl, fun i z b h1 h2 => ?_⟩
  rcases Nat.lt_or_ge i ys.length with hi | hi
  · rw [List.getElem?_append_left hi] at h1
    rw [List.getElem?_append_left (by rw [← h.1]; exact hi)] at h2
    exact h.2 i z b h1 h2
  · rw [List.getElem?_append_right hi] at h1
    rw [List.getElem?_append_right (by rw [← h.1]; exact hi), ← h.1] at h2
    cases hq : i - ys.length with
    | zero => rw [hq] at h1 h2; cases h1; cases h2; exact hy
    | succ n => rw [hq] at h1; cases h1
theorem ItemsR.rev (h : ItemsR R l ys H) : ItemsR R l.reverse ys.reverse H := by
  refine ⟨by rw [List.length_reverse, List.length_reverse, h.1], fun i z b h1 h2 => ?_⟩
  have hi : i < ys.reverse.length := (List.getElem?_eq_some_iff.mp h1).1
  rw [List.length_reverse] at hi
  rw [List.getElem?_reverse hi] at h1
  rw [List.getElem?_reverse (by rw [← h.1]; exact hi), ← h.1] at h2
  exact h.2 _ z b h1 h2
theorem ItemsR.imp (h : ItemsR R l ys H) (k : ∀ a y, a ∈ l → R a y H → R' a y H) : ItemsR R' l ys H := ⟨h.1, fun i y a h1 h2 => k a y (List.mem_of_getElem? h2) (h.2 i y a h1 h2)⟩
theorem ItemsR.at {i : Nat} {a : α} (h : ItemsR R l ys H) (ha : l[i]? = some a) : ∃ y, ys[i]? = some y ∧ R a y H := by
  have hi : i < l.length := (List.getElem?_eq_some_iff.mp ha).1
  have hi2 : i < ys.length := by rw [h.1]; exact hi
  have hy : ys[i]? = some ys[i] := List.getElem?_eq_getElem hi2
  exact ⟨_, hy, h.2 i _ a hy ha⟩
theorem ItemsR.of_at {i : Nat} {y : V} (h : ItemsR R l ys H) (hy : ys[i]? = some y) : ∃ a, l[i]? = some a ∧ R a y H := by
  have hi : i < ys.length := (List.getElem?_eq_some_iff.mp hy).1
  have hi2 : i < l.length := by rw [← h.1]; exact hi
  have ha : l[i]? = some l[i] := List.getElem?_eq_getElem hi2
  exact ⟨_, ha, h.2 i y _ hy ha⟩
end
/-- ints -/
def IntI (n : Int) : VP := fun v _ => v = .int n
theorem ItemsR.ints {l : List Int} {ys : List V} {H : Hp} (h : ItemsR IntI l ys H) : ys = l.map V.int := by
  apply List.ext_getElem?
  intro i
  rw [List.getElem?_map]
  cases hy : ys[i]? with
  | none =>
    have : l[i]? = none := List.getElem?_eq_none (by rw [← h.1]; exact List.getElem?_eq_none_iff.mp hy)
    rw [this]; rfl
  | some y =>
    obtain ⟨a, ha, e⟩ := h.of_at hy
    rw [ha, Option.map_some, e]
/-- a pair of ints, as a tuple -/
def PairI (x : Int × Nat) : VP := fun v H => ∃ q, v = .ref q ∧ H q = some (.tup [.int x.1, .int (x.2 : Int)])
theorem pairI (x : Int × Nat) : MonoT (PairI x) := fun v H H' e ⟨q, h1, h2⟩ => ⟨q, h1, e q _ h2 True.intro⟩
/-- a list of them -/
def ListR {α : Type} (R : α → VP) (l : List α) : VP := fun v H => ∃ p ys, v = .ref p ∧ H p = some (.lst ys) ∧ ItemsR R l ys H
section
variable {H : Hp}
theorem ItemsR.set {α : Type} {R : α → VP} {l : List α} {ys : List V} {i : Nat} {a : α} {y : V} (h : ItemsR R l ys H) (hy : R a y H) : ItemsR R (l.set i a) (ys.set i y) H := by
  refine ⟨by rw [List.length_set, List.length_set, h.1], fun j z b h1 h2 => ?_⟩
  by_cases e : i = j
  · subst e
    have hlt : i < ys.length := by
      have := (List.getElem?_eq_some_iff.mp h1).1
      rw [List.length_set] at this; exact this
    rw [List.getElem?_set_self hlt] at h1
    rw [List.getElem?_set_self (by rw [← h.1]; exact hlt)] at h2
    cases h1; cases h2; exact hy
  · rw [List.getElem?_set_ne e] at h1 h2
    exact h.2 j z b h1 h2
theorem ItemsR.append {α : Type} {R : α → VP} {l l' : List α} {ys zs : List V} (h : ItemsR R l ys H) (h' : ItemsR R l' zs H) : ItemsR R (l ++ l') (ys ++ zs) H := by
  refine ⟨by rw [List.length_append, List.length_append, h.1, h'.1], fun i z b h1 h2 => ?_⟩
  rcases Nat.lt_or_ge i ys.length with hi | hi
  · rw [List.getElem?_append_left hi] at h1
    rw [List.getElem?_append_left (by rw [← h.1]; exact hi)] at h2
    exact h.2 i z b h1 h2
  · rw [List.getElem?_append_right hi] at h1
    rw [List.getElem?_append_right (by rw [← h.1]; exact hi), ← h.1] at h2
    exact h'.2 _ z b h1 h2
theorem ItemsR.take {α : Type} {R : α → VP} {l : List α} {ys : List V} (n : Nat) (h : ItemsR R l ys H) : ItemsR R (l.take n) (ys.take n) H := by
  refine ⟨by rw [List.length_take, List.length_take, h.1], fun i z b h1 h2 => ?_⟩
  rw [List.getElem?_take] at h1 h2
  split at h1
  · rename_i q
    rw [if_pos q] at h2
    exact h.2 i z b h1 h2
  · cases h1
theorem ItemsR.drop {α : Type} {R : α → VP} {l : List α} {ys : List V} (n : Nat) (h : ItemsR R l ys H) : ItemsR R (l.drop n) (ys.drop n) H := by
  refine ⟨by rw [List.length_drop, List.length_drop, h.1], fun i z b h1 h2 => ?_⟩
  rw [List.getElem?_drop] at h1 h2
  exact h.2 _ z b h1 h2
theorem ItemsR.ins {α : Type} {R : α → VP} {l : List α} {ys : List V} {a : α} {y : V} (n : Nat) (h : ItemsR R l ys H) (hy : R a y H) : ItemsR R (l.take n ++ [a] ++ l.drop n) (ys.take n ++ [y] ++ ys.drop n) H :=
  ((h.take n).append (ItemsR.snoc (l := []) .nil hy)).append (h.drop n)
end
end Sk
set_option Elab.async false
set_option linter.all false
set_option maxRecDepth 100000
set_option maxHeartbeats 2000000
namespace Sk
open PySem L2 Evl
theorem fn_vac {P : Program} {w : World} {K : PySem.W.Frag} {mg : Str → Option Value} {base : Heap} {CX : CXT} {k : Nat} {f : Addr} {fd : FuncData} {ps : List Str} {sp : Sp} (no : ∀ vs H Q E, ¬ sp vs H Q E) : FnOk P w K mg base CX k f fd ps sp := ⟨fun vs H Q E h => absurd h (no vs H Q E), fun A outer s H args us vs Q E _ _ _ _ h => absurd h (no vs H Q E)⟩
end Sk
set_option Elab.async false
set_option linter.all false
set_option maxRecDepth 100000
set_option maxHeartbeats 1000000
namespace Sk
open PySem L2 Evl PySem.Spec PyProof.Rows
def tCFn (C : Addr) (sp : Sp) (E : XK) (t : TA) : TE := fun σ H Q => t σ H fun vs H2 => sp vs H2 Q E
section
variable {X : Cx} {CX : CXT} {k : Nat} {C g : Addr} {fd : FuncData} {ps : List Str} {mc : Value} {sp : Sp} {E : XK} {e : Expr} {es : List Expr} {x m : Str} {pos apos p : Pos} {t : TA} {pl : Sem Bool}
theorem pe_cfn (hg : Gl X x) (hm : X.mg x = some (.ref C)) (r : ClX.CRead X.K C mc) (c : ClX.CVal X.K C mc m (.ref g) (.ref g)) (kp : PySem.W.keepIn X.K (.ref g) = true) (F : FnOk X.prog X.w X.K X.mg X.base CX k g fd ps sp) (hr : Room k X.A) (hb : Binds X.K fd ps []) (hx : Passes CX X E) (ha : PA X (e :: es) t)
    (hdb : (x == ("__debug__" : Str)) = false := by decide)
    (hst : starEach (e :: es) X.env = (false, eval e X.env) :: starEach es X.env := by rfl) (hpl : (backTo pos (starEach es X.env)).any (·.1) = false := by rfl)
    (ht : eval (.Call (.Attribute (.Name x p) m apos) (e :: es) [] pos) X.env = (do
      let ov ← eval (.Name x p) X.env
      standAt apos.atName
      let (f, first) ← holding [ov] (getMethod ov m pl)
      callWith pos f first (backTo pos (starEach (e :: es) X.env)) (backToKw pos (keywordEach [] X.env))) := by rfl) :
    PE X (.Call (.Attribute (.Name x p) m apos) (e :: es) [] pos) (tCFn C sp E t) := by
  refine ⟨fun pins s σ H Q I h => ?_⟩
  refine PySem.W.methodCall_KW (pl := pl) (ld_glob I hg hm ?_ hdb) ht
  refine PySem.W.method_cls (I.tok _).kIn r.ga (ClX.getcval_ok (I.tok _) r c fun s2 I2 => ?_)
  refine PySem.W.callWith_K (h₀ := X.base) I.ok.mod.kin kp (thn (ha.run pos pins s2 σ H _ I2 h) fun us s1 ⟨vs, H1, I1, r, q⟩ => ⟨I1.kIn, ?_⟩) hst hpl
  exact run_fn F hr hb .nil hx I1 r (by rw [List.append_nil]; exact q)
end
/-- ReckonError.__init__(self, why, word) -/
def sp_rinit (K : PySem.W.Frag) : Sp := fun vs H Q _ => ∃ (a C : Addr) (u : V) (w : Str), vs = [.ref a, u, .str w] ∧ OexC K C ∧ PySem.W.findIn K (.ref C) "word" = some none ∧ H a = some (exo a C none) ∧ ∀ dx, H dx = none → dx ≠ a → Q .non (upd (upd H dx (exd dx [("word", .str w)])) a (exo a C (some dx)))
def t_rinit (K : PySem.W.Frag) : TS := tSeq (tDrop (tVeI K (tCons (tVar 0) (tCons (tVar 1) tNil)))) (tOst K "word" (tVar 0) (tVar 2))
theorem pure_rinit {K : PySem.W.Frag} {vs : List V} {H : Hp} {Q : VK} {E : XK} (h : sp_rinit K vs H Q E) : t_rinit K { nx := fun _ H' => Q .non H', rt := Q } (start ["self", "why", "word"] vs) H := by
  obtain ⟨a, C, u, w, rfl, T, hw, ha, k⟩ := h
  refine ⟨.ref a, rfl, u, rfl, a, C, [u], rfl, (by show 1 ≤ 1000; omega), T, ha, ?_⟩
  exact ⟨.str w, rfl, .ref a, rfl, a, C, rfl, T, hw, .inl ⟨ha, fun dx h1 h2 => k dx h1 h2⟩⟩
/-- X.__init__(self, why) -/
def sp_cinit (K : PySem.W.Frag) (w : Str) : Sp := fun vs H Q _ => ∃ (a C : Addr) (u : V), vs = [.ref a, u] ∧ OexC K C ∧ PySem.W.findIn K (.ref C) "word" = some none ∧ H a = some (exo a C none) ∧ ∀ dx, H dx = none → dx ≠ a → Q .non (upd (upd H dx (exd dx [("word", .str w)])) a (exo a C (some dx)))
def t_cinit (K : PySem.W.Frag) (aR : Addr) (w : Str) : TS := tDrop (tCFn aR (sp_rinit K) E0 (tCons (tVar 0) (tCons (tVar 1) (tCons (tC (.str w)) tNil))))
theorem pure_cinit {K : PySem.W.Frag} {aR : Addr} {w : Str} {vs : List V} {H : Hp} {Q : VK} {E : XK} (h : sp_cinit K w vs H Q E) : t_cinit K aR w { nx := fun _ H' => Q .non H', rt := Q } (start ["self", "why"] vs) H := by
  obtain ⟨a, C, u, rfl, T, hw, ha, k⟩ := h
  exact ⟨.ref a, rfl, u, rfl, a, C, u, w, rfl, T, hw, ha, fun dx h1 h2 => k dx h1 h2⟩
/-- an own error class that is raised: how it is made -/
structure ErrC (P : Program) (w : World) (K : PySem.W.Frag) (mg : Str → Option Value) (base : Heap) (x : Str) (C : Addr) : Prop where
  m : mg x = some (.ref C)
  T : OexC K C
  nm : nameIn K C = some x
  hw : PySem.W.findIn K (.ref C) "word" = some none
  i : ∃ (fI : Addr) (fd : FuncData), PySem.W.findIn K (.ref C) "__init__" = some (some (.ref fI)) ∧ PySem.W.typeIn K (.ref fI) = some (.type "function") ∧ Binds K fd ["self", "why"] [] ∧ FnOk P w K mg base CX0 2 fI fd ["self", "why"] (sp_cinit K (wordOf x))
section
variable {P : Program} {w : World} {K : PySem.W.Frag} {mg : Str → Option Value} {base : Heap} {x qual : Str} {st : Stmt} {f T C : Addr} {oc oc2 : Value} {od od2 an : Option Addr} {osl osl2 : Array (Option Value)} {kV doc pm cdv ct : Value} {n : Nat} {tk tk2 : Tok} {e1 e2 : Str}
theorem init_mk1 (hl : K.lookup f = some ⟨oc, od, .func (PySem.W.fnOf x qual (defArgs st) (defBody st) (defScope st) (.ref T) kV doc pm an cdv ct), osl⟩) (hT : K.lookup T = some ⟨oc2, od2, .seq #[.str e1 tk] n, osl2⟩) (hc : PySem.W.codeIn K cdv qual = true) (hk : PySem.W.keepIn K (.ref f) = true) :
    FunD K x qual (defArgs st) (defBody st) (defScope st) [.str e1] [] f (PySem.W.fnOf x qual (defArgs st) (defBody st) (defScope st) (.ref T) kV doc pm an cdv ct) :=
  ⟨⟨oc, od, _, kV, doc, pm, an, cdv, ct, osl, rfl, hl, hc, .inr ⟨by simp, T, _, [.str e1 tk], n, rfl, hT, rfl, .cons ⟨tk, rfl⟩ .nil⟩, .inl rfl⟩, hk⟩
theorem init_mk2 (hl : K.lookup f = some ⟨oc, od, .func (PySem.W.fnOf x qual (defArgs st) (defBody st) (defScope st) (.ref T) kV doc pm an cdv ct), osl⟩) (hT : K.lookup T = some ⟨oc2, od2, .seq #[.str e1 tk, .str e2 tk2] n, osl2⟩) (hc : PySem.W.codeIn K cdv qual = true) (hk : PySem.W.keepIn K (.ref f) = true) :
    FunD K x qual (defArgs st) (defBody st) (defScope st) [.str e1, .str e2] [] f (PySem.W.fnOf x qual (defArgs st) (defBody st) (defScope st) (.ref T) kV doc pm an cdv ct) :=
  ⟨⟨oc, od, _, kV, doc, pm, an, cdv, ct, osl, rfl, hl, hc, .inr ⟨by simp, T, _, [.str e1 tk, .str e2 tk2], n, rfl, hT, rfl, .cons ⟨tk, rfl⟩ (.cons ⟨tk2, rfl⟩ .nil)⟩, .inl rfl⟩, hk⟩
theorem binds_full {l : List V} {fd : FuncData} {ps : List Str} (h : ∃ ds, Vals l ds ∧ Binds K fd ps ds) (hl : l = []) : Binds K fd ps [] := by
  subst hl
  obtain ⟨ds, h1, h2⟩ := h
  cases h1
  exact h2
theorem oex_mk {nm q : Str} {N : Addr} {bs bm sub : List Value} {sn : List Str} {ab : Bool} {col : Option Bool} {dd : Option Addr} {k0 k1 k2 k3 k5 : Option Value} (hl : K.lookup C = some (excClassObj nm q C N bs bm true sn sub ab col dd k0 k1 k2 k3 k5 "ValueError.__new__")) (hr : PySem.HandSPX.refsVE bm = true)
    (sa : PySem.W.findIn K (.ref C) "__setattr__" = some (some (.builtin "object.__setattr__"))) (A : ClsAt K mg x C) : OexC K C ∧ nameIn K C = some nm :=
  ⟨⟨⟨_, _, _, _, _, _, _, _, _, _, _, _, _, _, _, hl, hr⟩, sa, A.sb, A.ty, A.k⟩, by unfold nameIn PySem.W.clsIn; rw [hl] <;> rfl⟩
end
end Sk
set_option Elab.async false
set_option linter.all false
set_option maxRecDepth 100000
set_option maxHeartbeats 2000000
namespace Sk
open PySem L2 Evl
def T.lead : T → Int
  | .nil => -2
  | .cons _ e _ => e.val
def T.can : T → Prop
  | .nil => True
  | .cons s e r => ((s = 1 ∨ s = -1) ∧ 0 ≤ e.val ∧ r.lead + 2 ≤ e.val) ∧ e.can ∧ r.can
/-- the bounds of a number by its first exponent -/
theorem can_bounds : ∀ {t : T}, t.can → (3 * t.val ≤ 2 ^ (t.lead + 2).toNat - 1 ∧ -(2 ^ (t.lead + 2).toNat - 1) ≤ 3 * t.val) ∧
    ∀ s e r, t = .cons s e r → 2 ^ (e.val.toNat + 1) + 1 ≤ 3 * (s * t.val)
  | .nil, _ => ⟨⟨by decide, by decide⟩, fun s e r h => by cases h⟩
  | .cons s e r, ⟨⟨hs, he, hl⟩, _, hr⟩ => by
    obtain ⟨⟨b1, b2⟩, _⟩ := can_bounds hr
    have hp : (2 : Int) ^ (r.lead + 2).toNat ≤ 2 ^ e.val.toNat := by
      have h : (2 : Nat) ^ (r.lead + 2).toNat ≤ 2 ^ e.val.toNat := Nat.pow_le_pow_right (by decide) (by omega)
      exact_mod_cast h
    have e2 : (e.val + 2).toNat = e.val.toNat + 2 := by omega
    have p2 : (2 : Int) ^ (e.val.toNat + 2) = 4 * 2 ^ e.val.toNat := by rw [Int.pow_add]; omega
    have p1 : (2 : Int) ^ (e.val.toNat + 1) = 2 * 2 ^ e.val.toNat := by rw [Int.pow_add]; omega
    have hv : (T.cons s e r).val = s * 2 ^ e.val.toNat + r.val := rfl
    have hlead : (T.cons s e r).lead = e.val := rfl
    refine ⟨?_, fun s' e' r' h => ?_⟩
    · rw [hlead, e2, p2, hv]
      generalize (2 : Int) ^ e.val.toNat = P at *
      rcases hs with rfl | rfl <;> omega
    · cases h
      rw [p1, hv]
      generalize (2 : Int) ^ e.val.toNat = P at *
      rcases hs with rfl | rfl <;> omega
theorem can_pos {s : Int} {e r : T} (h : (T.cons s e r).can) : 0 < s * (T.cons s e r).val := by
  have h1 := (can_bounds h).2 s e r rfl
  have h2 : (0 : Int) < 2 ^ (e.val.toNat + 1) := Int.pow_pos (by decide)
  omega
theorem can_sgn : ∀ {t : T}, t.can → (t.sgn = 0 ∧ t.val = 0) ∨ (t.sgn = 1 ∧ 0 < t.val) ∨ (t.sgn = -1 ∧ t.val < 0)
  | .nil, _ => .inl ⟨rfl, rfl⟩
  | .cons s e r, h => by
    have hp := can_pos h
    rcases h.1.1 with rfl | rfl
    · exact .inr (.inl ⟨rfl, by omega⟩)
    · exact .inr (.inr ⟨rfl, by omega⟩)
theorem can_big {s : Int} {e r : T} (h : (T.cons s e r).can) : 2 ^ e.val.toNat < 2 * (T.cons s e r).val.natAbs ∧ 2 * r.val.natAbs < 2 ^ e.val.toNat := by
  have h1 := (can_bounds h).2 s e r rfl
  obtain ⟨⟨b1, b2⟩, _⟩ := can_bounds h.2.2
  have hl := h.1.2.2
  have he := h.1.2.1
  have hp : (2 : Int) ^ (r.lead + 2).toNat ≤ 2 ^ e.val.toNat := by
    have h : (2 : Nat) ^ (r.lead + 2).toNat ≤ 2 ^ e.val.toNat := Nat.pow_le_pow_right (by decide) (by omega)
    exact_mod_cast h
  have p1 : (2 : Int) ^ (e.val.toNat + 1) = 2 * 2 ^ e.val.toNat := by rw [Int.pow_add]; omega
  rw [p1] at h1
  have c : ((2 ^ e.val.toNat : Nat) : Int) = (2 : Int) ^ e.val.toNat := by norm_cast
  rcases h.1.1 with rfl | rfl
  · constructor <;> omega
  · constructor <;> omega
theorem can_none : ∀ {t : T} {b : Nat}, t.can → t.within b = none → 2 ^ b < t.val.natAbs
  | .nil, b, _, h => by cases h
  | .cons s e r, b, hc, h => by
    obtain ⟨g1, g2⟩ := can_big hc
    have he := hc.1.2.1
    have fin : b + 1 ≤ e.val.toNat → 2 ^ b < (T.cons s e r).val.natAbs := fun h1 => by
      have h2 : 2 ^ (b + 1) ≤ 2 ^ e.val.toNat := Nat.pow_le_pow_right (by decide) h1
      rw [Nat.pow_succ] at h2
      omega
    rw [T.within] at h
    cases hq : e.within (bl b) with
    | none =>
      have ih := can_none hc.2.1 hq
      have h3 := lt_bl b
      exact fin (by omega)
    | some q =>
      rw [hq] at h
      simp only at h
      have hqv := within_val _ _ _ hq
      split at h
      · rename_i hb
        exact fin (by omega)
      · cases hr : r.within b with
        | none =>
          have ih := can_none hc.2.2 hr
          omega
        | some z => rw [hr] at h; cases h
/-- from the list of the terms -/
theorem can_ofL : ∀ {l : List (Int × T)}, (∀ x ∈ l, (x.1 = 1 ∨ x.1 = -1) ∧ 0 ≤ x.2.val ∧ x.2.can) → l.Pairwise (fun x y => y.2.val + 2 ≤ x.2.val) → (ofL l).can
  | [], _, _ => True.intro
  | (s, e) :: r, h, hp => by
    have h0 := h (s, e) List.mem_cons_self
    have hp' := List.pairwise_cons.mp hp
    refine ⟨⟨h0.1, h0.2.1, ?_⟩, h0.2.2, can_ofL (fun x hx => h x (List.mem_cons_of_mem _ hx)) hp'.2⟩
    cases r with
    | nil => have := h0.2.1; show -2 + 2 ≤ e.val; exact this
    | cons y r => exact hp'.1 y List.mem_cons_self
theorem naf_gap : ∀ (k : Nat) (n : Int), n.natAbs ≤ k → ∀ p, (naf n p).Pairwise (fun x y => x.2 + 2 ≤ y.2)
  | 0, n, hk, p => by
    have : n = 0 := by omega
    subst this; rw [naf_zero]; exact List.Pairwise.nil
  | k + 1, n, hk, p => by
    by_cases h0 : n = 0
    · subst h0; rw [naf_zero]; exact List.Pairwise.nil
    rcases Int.emod_two_eq n with h | h
    · rw [naf_even h]
      exact naf_gap k _ (by omega) _
    · rw [naf_odd h]
      refine List.pairwise_cons.mpr ⟨fun y hy => ?_, ?_⟩
      · have hev : (n - (2 - n % 4)) / 2 % 2 = 0 := by omega
        rw [naf_even hev] at hy
        exact (naf_mem_ge _ _ (Nat.le_refl _) (p + 1 + 1) y hy).1
      · by_cases hz : (n - (2 - n % 4)) / 2 = 0
        · rw [hz, naf_zero]; exact List.Pairwise.nil
        · exact naf_gap k _ (by omega) _
theorem toT_can_aux : ∀ (k : Nat) (n : Int), n.natAbs ≤ k → (toT n).can
  | k, n, hk => by
    rw [toT_eq]
    refine can_ofL (fun x hx => ?_) ?_
    · obtain ⟨y, hy, rfl⟩ := List.mem_map.mp hx
      have hy := List.mem_reverse.mp hy
      have hlt := naf_lt hy
      refine ⟨naf_sign hy, by show 0 ≤ (toT (y.2 : Int)).val; rw [toT_val]; omega, ?_⟩
      cases k with
      | zero => omega
      | succ k => exact toT_can_aux k _ (by simp; omega)
    · rw [List.pairwise_map, List.pairwise_reverse]
      refine (naf_gap _ n (Nat.le_refl _) 0).imp fun {x y} h => ?_
      show (toT (x.2 : Int)).val + 2 ≤ (toT (y.2 : Int)).val
      rw [toT_val, toT_val]
      omega
theorem toT_can (n : Int) : (toT n).can := toT_can_aux _ n (Nat.le_refl _)
theorem pow_leI {a b : Nat} (h : a ≤ b) : (2 : Int) ^ a ≤ 2 ^ b := by
  have : (2 : Nat) ^ a ≤ 2 ^ b := Nat.pow_le_pow_right (by decide) h
  exact_mod_cast this
/-- the first exponent tells how great a number is -/
theorem lead_lt {s s' : Int} {e e' r r' : T} (h : (T.cons s e r).can) (h' : (T.cons s' e' r').can) (hl : e.val < e'.val) : s * (T.cons s e r).val < s' * (T.cons s' e' r').val ∧ -(s * (T.cons s e r).val) < s' * (T.cons s' e' r').val := by
  obtain ⟨⟨b1, b2⟩, b3⟩ := can_bounds h
  have c3 := (can_bounds h').2 s' e' r' rfl
  have he := h.1.2.1
  have hlead : (T.cons s e r).lead = e.val := rfl
  rw [hlead] at b1 b2
  have hp : (2 : Int) ^ (e.val + 2).toNat ≤ 2 ^ (e'.val.toNat + 1) := pow_leI (by omega)
  have hpos := can_pos h
  generalize (T.cons s e r).val = x at *
  generalize (T.cons s' e' r').val = y at *
  rcases h.1.1 with rfl | rfl
  · constructor <;> omega
  · constructor <;> omega
theorem can_uniq : ∀ {t u : T}, t.can → u.can → t.val = u.val → t = u
  | .nil, .nil, _, _, _ => rfl
  | .nil, .cons s e r, _, h, hv => by
    have := can_pos h
    rw [← hv] at this
    simp [T.val] at this
  | .cons s e r, .nil, h, _, hv => by
    have := can_pos h
    rw [hv] at this
    simp [T.val] at this
  | .cons s e r, .cons s' e' r', h, h', hv => by
    have p1 := can_pos h
    have p2 := can_pos h'
    have hs : s = s' := by
      rw [hv] at p1
      generalize (T.cons s' e' r').val = y at *
      rcases h.1.1 with rfl | rfl <;> rcases h'.1.1 with rfl | rfl <;> omega
    subst hs
    have hev : e.val = e'.val := by
      rcases Int.lt_trichotomy e.val e'.val with q | q | q
      · have := (lead_lt h h' q).1
        rw [hv] at this; omega
      · exact q
      · have := (lead_lt h' h q).1
        rw [hv] at this; omega
    have he := can_uniq h.2.1 h'.2.1 hev
    subst he
    have hr : r.val = r'.val := by
      have h1 : s * 2 ^ e.val.toNat + r.val = s * 2 ^ e.val.toNat + r'.val := hv
      omega
    rw [can_uniq h.2.2 h'.2.2 hr]
theorem can_eq {t : T} (h : t.can) : t = toT t.val := can_uniq h (toT_can _) (toT_val _).symm
end Sk
set_option Elab.async false
set_option linter.all false
set_option maxRecDepth 100000
set_option maxHeartbeats 2000000
namespace Sk
open PySem L2 Evl
def kall (f : Value → Option PyData) : List Value → Option (List PyData)
  | [] => some []
  | v :: r => match f v, kall f r with
    | some d, some ds => some (d :: ds)
    | _, _ => none
def kdat (K : PySem.W.Frag) : Nat → Value → Option PyData
  | 0, _ => none
  | n + 1, .int i _ => some (.int i)
  | n + 1, .str x _ => some (.str x)
  | n + 1, .ref a => match K.lookup a with
    | some ⟨.type "tuple", none, .seq its _, _⟩ => if its.size ≤ 1000 then (kall (kdat K n) its.toList).map PyData.tuple else none
    | _ => none
  | _, _ => none
theorem kall_dp {K : PySem.W.Frag} {f : Value → Option PyData} (hf : ∀ v d, f v = some d → ∃ x, RelV x v ∧ ∀ H, Dp K H x d) : ∀ (vs : List Value) (ds : List PyData), kall f vs = some ds → ∃ xs, Vals xs vs ∧ ∀ H, DpAll K H xs ds
  | [], ds, h => by cases h; exact ⟨[], .nil, fun H => .nil⟩
  | v :: r, ds, h => by
    unfold kall at h
    split at h
    · rename_i d ds' h1 h2
      cases h
      obtain ⟨x, r1, d1⟩ := hf v d h1
      obtain ⟨xs, r2, d2⟩ := kall_dp hf r ds' h2
      exact ⟨x :: xs, .cons r1 r2, fun H => .cons (d1 H) (d2 H)⟩
    · cases h
theorem kdat_dp {K : PySem.W.Frag} : ∀ (n : Nat) (v : Value) (d : PyData), kdat K n v = some d → ∃ x, RelV x v ∧ ∀ H, Dp K H x d
  | 0, v, d, h => by cases h
  | n + 1, v, d, h => by
    unfold kdat at h
    split at h
    · cases h
    · cases h; exact ⟨.int _, ⟨_, rfl⟩, fun H => .int _⟩
    · cases h; exact ⟨.str _, ⟨_, rfl⟩, fun H => .str _⟩
    · rename_i n' a hn
      cases hn
      split at h
      · rename_i its z sl hk
        split at h
        · rename_i hz
          cases hq : kall (kdat K n) its.toList with
          | none => rw [hq] at h; cases h
          | some ds =>
            rw [hq] at h
            cases h
            obtain ⟨xs, r2, d2⟩ := kall_dp (kdat_dp n) _ _ hq
            exact ⟨.ref a, rfl, fun H => .tup (.inr ⟨_, its, z, hk, rfl, rfl, Nat.le_trans hz (by decide), r2⟩) (d2 H)⟩
        · cases h
      · cases h
    · cases h
theorem kdat_ref {K : PySem.W.Frag} {n : Nat} {a : Addr} {d : PyData} (h : kdat K n (.ref a) = some d) : ∀ H, Dp K H (.ref a) d := by
  obtain ⟨x, r, k⟩ := kdat_dp n _ d h
  cases x <;> first | (cases r; done) | (obtain ⟨_, r⟩ := r; cases r) | skip
  rename_i b
  cases r
  exact k
theorem items_lay : ∀ t : T, PyData.canLayAll0 t.items = true
  | .nil => rfl
  | .cons s e r => by
    rw [T.items]
    simp [PyData.canLay0, PyData.canLayAll0, items_lay e, items_lay r]
theorem items_depth : ∀ t : T, PyData.depthAll t.items ≤ 2 * t.height + 1
  | .nil => by simp [T.items, PyData.depthAll]
  | .cons s e r => by
    have h1 := items_depth e
    have h2 := items_depth r
    have e1 : (T.cons s e r).height = max (e.height + 1) r.height := rfl
    rw [T.items]
    simp [PyData.depthAll, PyData.depth]
    omega
theorem items_eqv : ∀ t u : T, PyData.eqvAll t.items u.items = decide (t = u)
  | .nil, .nil => by rw [T.items, PyData.eqvAll]; rfl
  | .nil, .cons s e r => by rw [T.items, T.items, PyData.eqvAll]; exact (decide_eq_false (fun q => by cases q)).symm
  | .cons s e r, .nil => by rw [T.items, T.items, PyData.eqvAll]; exact (decide_eq_false (fun q => by cases q)).symm
  | .cons s e r, .cons s' e' r' => by
    rw [T.items, T.items, PyData.eqvAll, PyData.eqv, PyData.eqvAll, PyData.eqv, PyData.eqvAll, PyData.eqv, PyData.eqvAll, items_eqv e e', items_eqv r r', Bool.eq_iff_iff]
    simp
    constructor
    · rintro ⟨⟨h1, h2⟩, h3⟩; exact ⟨h1, h2, h3⟩
    · rintro ⟨h1, h2, h3⟩; exact ⟨⟨h1, h2⟩, h3⟩
theorem data_lay (t : T) : t.data.canLay0 = true := by
  unfold T.data
  rw [PyData.canLay0]; exact items_lay t
theorem data_depth (t : T) : t.data.depth ≤ 2 * t.height + 2 := by
  unfold T.data
  rw [PyData.depth]
  have := items_depth t
  omega
theorem data_eqv (t u : T) : t.data.eqv u.data = decide (t = u) := by
  unfold T.data
  rw [PyData.eqv]; exact items_eqv t u
/-- the first eight numbers -/
def firstT : List T := [.nil, ofL [(1, .nil)], ofL [(1, ofL [(1, .nil)])], ofL [(1, ofL [(1, ofL [(1, .nil)])]), (-1, .nil)], ofL [(1, ofL [(1, ofL [(1, .nil)])])], ofL [(1, ofL [(1, ofL [(1, .nil)])]), (1, .nil)],
  ofL [(1, ofL [(1, ofL [(1, ofL [(1, .nil)])]), (-1, .nil)]), (-1, ofL [(1, .nil)])], ofL [(1, ofL [(1, ofL [(1, ofL [(1, .nil)])]), (-1, .nil)]), (-1, .nil)]]
theorem first_can : ∀ t ∈ firstT, t.can := by
  intro t h
  simp only [firstT, List.mem_cons, List.not_mem_nil, or_false] at h
  rcases h with rfl | rfl | rfl | rfl | rfl | rfl | rfl | rfl <;> simp [ofL, T.can, T.lead, T.val]
theorem first_val : firstT.map T.val = (List.range 8).map fun i : Nat => (i : Int) := by decide +kernel
theorem first_eq : firstT = (List.range 8).map fun i : Nat => toT (i : Int) := by
  apply List.ext_getElem?
  intro i
  have hv := congrArg (fun l => l[i]?) first_val
  simp only [List.getElem?_map] at hv ⊢
  cases h1 : firstT[i]? with
  | none =>
    rw [h1] at hv
    cases h2 : (List.range 8)[i]? with
    | none => rfl
    | some j => rw [h2] at hv; cases hv
  | some t =>
    rw [h1] at hv
    cases h2 : (List.range 8)[i]? with
    | none => rw [h2] at hv; cases hv
    | some j =>
      rw [h2] at hv
      have hv' : t.val = (j : Int) := Option.some.inj hv
      exact congrArg some (can_uniq (first_can t (List.mem_of_getElem? h1)) (toT_can _) (by rw [hv', toT_val]))
theorem first_at {i : Nat} (h : i < 8) : firstT[i]? = some (toT (i : Int)) := by
  rw [first_eq, List.getElem?_map, List.getElem?_range h]; rfl
def firstD : PyData := .tuple (firstT.map T.data)
/-- a written tuple -/
def TupAt (K : PySem.W.Frag) (a : Addr) : Prop := ∃ o, K.lookup a = some o ∧ o.cls = .type "tuple" ∧ o.dict = none
theorem kdat_tup {K : PySem.W.Frag} {n : Nat} {a : Addr} {d : PyData} (h : kdat K n (.ref a) = some d) : TupAt K a := by
  cases n with
  | zero => cases h
  | succ n =>
    unfold kdat at h
    split at h
    · rename_i its z sl hk
      exact ⟨_, hk, rfl, rfl⟩
    · cases h
/-- the written tuple at a is that of the first numbers -/
def FirstAt (K : PySem.W.Frag) (a : Addr) : Prop := (∀ H, Dp K H (.ref a) firstD) ∧ TupAt K a
theorem first_mk {K : PySem.W.Frag} {n : Nat} {a : Addr} (h : kdat K n (.ref a) = some firstD) : FirstAt K a := ⟨kdat_ref h, kdat_tup h⟩
theorem FirstAt.out {K : PySem.W.Frag} {a : Addr} (h : FirstAt K a) (H : Hp) : ∃ xs, SqT K H a xs ∧ ItemsR (fun t v H => NumV K H v t) firstT xs H := by
  have h1 := h.1 H
  unfold firstD at h1
  cases h1 with
  | tup hs hd =>
    rename_i xs
    refine ⟨xs, hs, ?_⟩
    have key : ∀ (l : List T) (xs : List V), DpAll K H xs (l.map T.data) → ItemsR (fun t v H => NumV K H v t) l xs H := by
      intro l
      induction l with
      | nil => intro xs h; cases h; exact .nil
      | cons t r ih =>
        intro xs h
        cases h with
        | cons g1 g2 =>
          have := ih _ g2
          refine ⟨by rw [List.length_cons, List.length_cons, this.1], fun i y a h1 h2 => ?_⟩
          cases i with
          | zero => simp at h1 h2; subst h1 h2; exact g1
          | succ i => simp at h1 h2; exact this.2 i y a h1 h2
    exact key _ _ hd
end Sk
set_option Elab.async false
set_option linter.all false
set_option maxRecDepth 100000
set_option maxHeartbeats 1000000
set_option Elab.async false
set_option linter.all false
set_option maxRecDepth 100000
set_option maxHeartbeats 1000000
namespace Sk
open PySem PySem.Spec PyProof.Rows L2
/-- the objects at some places -/
def frN (n : List Nat) (g : Addr → Option Obj) : PySem.W.Frag := He.frG g n
def bAll : List Bool → Bool
  | [] => true
  | b :: l => b && bAll l
theorem bAll_at : ∀ {l : List Bool}, bAll l = true → ∀ (i : Nat) {b : Bool}, l[i]? = some b → b = true
  | [], _, i, b, e => by cases e
  | c :: l, h, 0, b, e => by cases e; exact (Bool.and_eq_true_iff.mp h).1
  | c :: l, h, i + 1, b, e => bAll_at (Bool.and_eq_true_iff.mp h).2 i e
abbrev AlN : Type := He.AlT × Bool
def obsN (n : List Nat) (fn : List He.DefD) (ts : List He.Tab) (ex : PySem.W.Frag → List Bool) (g : Addr → Option Obj) : AlN := (He.obsT [] fn ts (frN n g), bAll (ex (frN n g)))
def hookN (n : List Nat) (fn : List He.DefD) (ts : List He.Tab) (ex : PySem.W.Frag → List Bool) : PySem.W.Hook where
  α := AlN
  obs := fun s => obsN n fn ts ex s.heap.get?
  val := fun w => (He.valT fn ts w, true)
  says := fun w h => ∃ K : PySem.W.Frag, K.In h ∧ He.SaysT [] fn ts w K ∧ bAll (ex K) = true
  of := fun _ _ e => ⟨_, He.frG_in, congrArg (fun z : AlN => z.1) e, congrArg (fun z : AlN => z.2) e⟩
  keeps := fun _ _ _ ⟨K, hK, c⟩ k => ⟨K, PySem.W.Frag.In.keeps hK k, c⟩
def obN (n : List Nat) (fn : List He.DefD) (ts : List He.Tab) (ex : PySem.W.Frag → List Bool) (s : PySem.W.SharedT) : AlN := obsN n fn ts ex (HandSHeadRun.getT s)
theorem obN_eq {n : List Nat} {fn : List He.DefD} {ts : List He.Tab} {ex : PySem.W.Frag → List Bool} (s : PySem.W.SharedT) : obN n fn ts ex s = (hookN n fn ts ex).obs s.abs := by
  have e : HandSHeadRun.getT s = s.abs.heap.get? := funext (HandSHeadRun.getT_eq s)
  unfold obN
  rw [e]
  rfl
section
variable {K : PySem.W.Frag} {x q : Str} {ps : Arguments} {b : List Stmt} {sc : Scope} {f : Addr} {fd : FuncData} {v : V} {v2 : V}
theorem dfl_none {dV : Value} (h : DflV K dV []) : dV = .none := by
  rcases h with ⟨_, h⟩ | ⟨h, _⟩
  · exact h
  · exact absurd rfl h
theorem fun0 (F : FunD K x q ps b sc [] [] f fd) : ∃ oc od osl kV doc pm an cdv ct, K.lookup f = some ⟨oc, od, .func (PySem.W.fnOf x q ps b sc .none kV doc pm an cdv ct), osl⟩ ∧ PySem.W.codeIn K cdv q = true ∧ PySem.W.keepIn K (.ref f) = true := by
  obtain ⟨⟨oc, od, dV, kV, doc, pm, an, cdv, ct, osl, rfl, lk, cd, df, _⟩, kp⟩ := F
  rw [dfl_none df] at lk
  exact ⟨oc, od, osl, kV, doc, pm, an, cdv, ct, lk, cd, kp⟩
theorem funS {z : Str} (F : FunD K x q ps b sc [.str z] [] f fd) : ∃ oc od osl T kV doc pm an cdv ct oc2 od2 osl2 n tk, K.lookup f = some ⟨oc, od, .func (PySem.W.fnOf x q ps b sc (.ref T) kV doc pm an cdv ct), osl⟩ ∧ K.lookup T = some ⟨oc2, od2, .seq #[.str z tk] n, osl2⟩ ∧ PySem.W.codeIn K cdv q = true ∧ PySem.W.keepIn K (.ref f) = true := by
  obtain ⟨⟨oc, od, dV, kV, doc, pm, an, cdv, ct, osl, rfl, lk, cd, df, _⟩, kp⟩ := F
  rcases df with ⟨h, _⟩ | ⟨_, T, ⟨oc2, od2, dt, osl2⟩, its, n, rfl, hT, hd, hv⟩
  · cases h
  · cases hv with
    | cons h1 h2 =>
      cases h2
      obtain ⟨tk, rfl⟩ := h1
      have hd : dt = .seq #[.str z tk] n := hd
      subst hd
      exact ⟨oc, od, osl, T, kV, doc, pm, an, cdv, ct, oc2, od2, osl2, n, tk, lk, hT, cd, kp⟩
theorem funS2 {z z2 : Str} (F : FunD K x q ps b sc [.str z, .str z2] [] f fd) : ∃ oc od osl T kV doc pm an cdv ct oc2 od2 osl2 n tk tk2, K.lookup f = some ⟨oc, od, .func (PySem.W.fnOf x q ps b sc (.ref T) kV doc pm an cdv ct), osl⟩ ∧ K.lookup T = some ⟨oc2, od2, .seq #[.str z tk, .str z2 tk2] n, osl2⟩ ∧ PySem.W.codeIn K cdv q = true ∧ PySem.W.keepIn K (.ref f) = true := by
  obtain ⟨⟨oc, od, dV, kV, doc, pm, an, cdv, ct, osl, rfl, lk, cd, df, _⟩, kp⟩ := F
  rcases df with ⟨h, _⟩ | ⟨_, T, ⟨oc2, od2, dt, osl2⟩, its, n, rfl, hT, hd, hv⟩
  · cases h
  · cases hv with
    | cons h1 h2 =>
      cases h2 with
      | cons h3 h4 =>
        cases h4
        obtain ⟨tk, rfl⟩ := h1
        obtain ⟨tk2, rfl⟩ := h3
        have hd : dt = .seq #[.str z tk, .str z2 tk2] n := hd
        subst hd
        exact ⟨oc, od, osl, T, kV, doc, pm, an, cdv, ct, oc2, od2, osl2, n, tk, tk2, lk, hT, cd, kp⟩
def conN (K : PySem.W.Frag) (x : Str) (v : V) : Bool := match PySem.W.nsIn K mainGlobals x with
  | some (some u) => He.relB v u
  | _ => false
theorem conN_I {i : Int} (h : conN K x (.int i) = true) : ∃ t, PySem.W.nsIn K mainGlobals x = some (some (.int i t)) := by
  unfold conN at h
  split at h
  · rename_i u e
    obtain ⟨t, rfl⟩ := He.relB_ok h
    exact ⟨t, e⟩
  · cases h
mutual
def pdB : PyData → PyData → Bool
  | .int i, .int j => decide (i = j)
  | .str x, .str y => decide (x = y)
  | .tuple l, .tuple m => pdL l m
  | _, _ => false
def pdL : List PyData → List PyData → Bool
  | [], [] => true
  | d :: l, e :: m => pdB d e && pdL l m
  | _, _ => false
end
mutual
theorem pdB_ok : ∀ {d e : PyData}, pdB d e = true → d = e
  | .int i, e, h => by
    cases e with
    | int j => rw [of_decide_eq_true (show decide (i = j) = true from h)]
    | _ => cases h
  | .str x, e, h => by
    cases e with
    | str y => rw [of_decide_eq_true (show decide (x = y) = true from h)]
    | _ => cases h
  | .tuple l, e, h => by
    cases e with
    | tuple m => rw [pdL_ok (show pdL l m = true from h)]
    | _ => cases h
  | .none, e, h => by cases e <;> cases h
  | .bool _, e, h => by cases e <;> cases h
  | .list _, e, h => by cases e <;> cases h
  | .dict _, e, h => by cases e <;> cases h
theorem pdL_ok : ∀ {l m : List PyData}, pdL l m = true → l = m
  | [], [], _ => rfl
  | [], _ :: _, h => by cases h
  | _ :: _, [], h => by cases h
  | d :: l, e :: m, h => by
    obtain ⟨h1, h2⟩ := Bool.and_eq_true_iff.mp (show (pdB d e && pdL l m) = true from h)
    rw [pdB_ok h1, pdL_ok h2]
end
def datN (K : PySem.W.Frag) (n : Nat) (a : Addr) (d : PyData) : Bool := match kdat K n (.ref a) with
  | some e => pdB e d
  | none => false
theorem datN_ok {n : Nat} {a : Addr} {d : PyData} (h : datN K n a d = true) : kdat K n (.ref a) = some d := by
  unfold datN at h
  split at h
  · rename_i e he
    rw [he, pdB_ok h]
  · cases h
def fndN (K : PySem.W.Frag) (c : Value) (m : Str) (v : Value) : Bool := match PySem.W.findCls K c (.type "type") m with
  | some (.val u) => decide (u = v)
  | _ => false
theorem fndN_ok {c v : Value} {m : Str} (h : fndN K c m v = true) : PySem.W.findCls K c (.type "type") m = some (.val v) := by
  unfold fndN at h
  split at h
  · rename_i u e
    rw [e, of_decide_eq_true h]
  · cases h
def errN (K : PySem.W.Frag) (C : Addr) (nm : Str) : Bool := match K.lookup C with
  | some ⟨.type t, _, .cls ⟨n0, _, .ref C' :: bm, _, _, hd, _, _, _, _, del⟩, ⟨[_, _, _, _, some (.builtin n), _]⟩⟩ => decide (t = "type") && (decide (n0 = nm) && (decide (C' = C) && (hd && (!del && (PySem.HandSPX.refsVE bm && decide (n = "ValueError.__new__"))))))
  | _ => false
theorem errN_ok {C : Addr} {nm : Str} (h : errN K C nm = true) : ∃ q N bs bm sn sub ab col dd k0 k1 k2 k3 k5, K.lookup C = some (excClassObj nm q C N bs bm true sn sub ab col dd k0 k1 k2 k3 k5 "ValueError.__new__") ∧ PySem.HandSPX.refsVE bm = true := by
  unfold errN at h
  split at h
  · rename_i t dd n0 bs C' bm N q hd sn sub ab col del k0 k1 k2 k3 n k5 e
    obtain ⟨h1, h⟩ := Bool.and_eq_true_iff.mp h
    obtain ⟨h2, h⟩ := Bool.and_eq_true_iff.mp h
    obtain ⟨h3, h⟩ := Bool.and_eq_true_iff.mp h
    obtain ⟨h4, h⟩ := Bool.and_eq_true_iff.mp h
    obtain ⟨h5, h⟩ := Bool.and_eq_true_iff.mp h
    obtain ⟨h6, h7⟩ := Bool.and_eq_true_iff.mp h
    have e1 := of_decide_eq_true h1
    have e2 := of_decide_eq_true h2
    have e3 := of_decide_eq_true h3
    have e5 : del = false := by cases del; rfl; cases h5
    have e7 := of_decide_eq_true h7
    subst e1 e2 e3 h4 e5 e7
    exact ⟨q, N, bs, bm, sn, sub, ab, col, dd, k0, k1, k2, k3, k5, e, h6⟩
  · cases h
end
end Sk
namespace Sk
open PySem PySem.Spec PyProof.Rows L2 Evl
def top (i : Nat) : Stmt := PySem.Challenge.pw_sandreckoner_k46_great_elements.main.body.getD i (.Pass ⟨0, 0, 0, 0⟩)
abbrev s_c_ReckonError : Stmt := inClass (top 20) 0
abbrev s_c_NotAllowed : Stmt := inClass (top 21) 0
abbrev s_c_TooLarge : Stmt := inClass (top 22) 0
abbrev s_signed_places : Stmt := top 3
abbrev s_bare_number : Stmt := top 4
abbrev s_value_within : Stmt := top 5
abbrev s_plus_small : Stmt := top 6
abbrev s_order : Stmt := top 11
abbrev s_gap : Stmt := top 12
abbrev s_terms_at : Stmt := top 13
abbrev s_settled : Stmt := top 14
abbrev s_plus : Stmt := top 15
abbrev s_index_in : Stmt := top 16
abbrev s_bare_sum : Stmt := top 17
abbrev s_bare_shift : Stmt := top 18
abbrev s_levels : Stmt := top 27
abbrev s_is_allowed : Stmt := top 28
abbrev s_allowed : Stmt := top 29
abbrev s_sign_of : Stmt := top 34
abbrev s_compare : Stmt := top 33
abbrev s_are_apart : Stmt := top 32
abbrev s_has_form : Stmt := top 31
abbrev s_check_number : Stmt := top 30
abbrev s_of_int : Stmt := top 35
abbrev s_negate : Stmt := top 38
abbrev s_add : Stmt := top 39
abbrev s_sum_terms : Stmt := top 40
abbrev s_bare_plain : Stmt := top 42
abbrev s_sum_of_two : Stmt := top 43
abbrev s_bare_product : Stmt := top 44
abbrev s_bare_inverse : Stmt := top 45
abbrev s_allowed_el : Stmt := top 48
abbrev s_is_plain : Stmt := top 49
abbrev s_plain_elX : Stmt := top 50
abbrev s_mul_el : Stmt := top 51
abbrev s_inv_el : Stmt := top 52
abbrev s_law_numbers44 : Stmt := top 54
abbrev s_law_tower46 : Stmt := top 55
abbrev s_law_drawn46 : Stmt := top 56
abbrev s_law_low46 : Stmt := top 57
abbrev s_law_good46 : Stmt := top 58
abbrev s_law_wide46 : Stmt := top 59
abbrev s_law_told46 : Stmt := top 60
abbrev s_law_refused46 : Stmt := top 61
abbrev s_law_agrees46 : Stmt := top 62
abbrev s_law : Stmt := top 63
def d_signed_places : He.DefD := ⟨("signed_places", none), "signed_places", "signed_places", defArgs s_signed_places, defBody s_signed_places, defScope s_signed_places, [], []⟩
def d_bare_number : He.DefD := ⟨("bare_number", none), "bare_number", "bare_number", defArgs s_bare_number, defBody s_bare_number, defScope s_bare_number, [], []⟩
def d_value_within : He.DefD := ⟨("value_within", none), "value_within", "value_within", defArgs s_value_within, defBody s_value_within, defScope s_value_within, [], []⟩
def d_plus_small : He.DefD := ⟨("plus_small", none), "plus_small", "plus_small", defArgs s_plus_small, defBody s_plus_small, defScope s_plus_small, [], []⟩
def d_order : He.DefD := ⟨("order", none), "order", "order", defArgs s_order, defBody s_order, defScope s_order, [], []⟩
def d_gap : He.DefD := ⟨("gap", none), "gap", "gap", defArgs s_gap, defBody s_gap, defScope s_gap, [], []⟩
def d_terms_at : He.DefD := ⟨("terms_at", none), "terms_at", "terms_at", defArgs s_terms_at, defBody s_terms_at, defScope s_terms_at, [], []⟩
def d_settled : He.DefD := ⟨("settled", none), "settled", "settled", defArgs s_settled, defBody s_settled, defScope s_settled, [], []⟩
def d_plus : He.DefD := ⟨("plus", none), "plus", "plus", defArgs s_plus, defBody s_plus, defScope s_plus, [], []⟩
def d_index_in : He.DefD := ⟨("index_in", none), "index_in", "index_in", defArgs s_index_in, defBody s_index_in, defScope s_index_in, [], []⟩
def d_bare_sum : He.DefD := ⟨("bare_sum", none), "bare_sum", "bare_sum", defArgs s_bare_sum, defBody s_bare_sum, defScope s_bare_sum, [], []⟩
def d_bare_shift : He.DefD := ⟨("bare_shift", none), "bare_shift", "bare_shift", defArgs s_bare_shift, defBody s_bare_shift, defScope s_bare_shift, [], []⟩
def d_levels : He.DefD := ⟨("levels", none), "levels", "levels", defArgs s_levels, defBody s_levels, defScope s_levels, [], []⟩
def d_is_allowed : He.DefD := ⟨("is_allowed", none), "is_allowed", "is_allowed", defArgs s_is_allowed, defBody s_is_allowed, defScope s_is_allowed, [], []⟩
def d_allowed : He.DefD := ⟨("allowed", none), "allowed", "allowed", defArgs s_allowed, defBody s_allowed, defScope s_allowed, [], []⟩
def d_sign_of : He.DefD := ⟨("sign_of", none), "sign_of", "sign_of", defArgs s_sign_of, defBody s_sign_of, defScope s_sign_of, [], []⟩
def d_compare : He.DefD := ⟨("compare", none), "compare", "compare", defArgs s_compare, defBody s_compare, defScope s_compare, [], []⟩
def d_are_apart : He.DefD := ⟨("are_apart", none), "are_apart", "are_apart", defArgs s_are_apart, defBody s_are_apart, defScope s_are_apart, [], []⟩
def d_has_form : He.DefD := ⟨("has_form", none), "has_form", "has_form", defArgs s_has_form, defBody s_has_form, defScope s_has_form, [], []⟩
def d_check_number : He.DefD := ⟨("check_number", none), "check_number", "check_number", defArgs s_check_number, defBody s_check_number, defScope s_check_number, [], []⟩
def d_of_int : He.DefD := ⟨("of_int", none), "of_int", "of_int", defArgs s_of_int, defBody s_of_int, defScope s_of_int, [], []⟩
def d_negate : He.DefD := ⟨("negate", none), "negate", "negate", defArgs s_negate, defBody s_negate, defScope s_negate, [], []⟩
def d_add : He.DefD := ⟨("add", none), "add", "add", defArgs s_add, defBody s_add, defScope s_add, [], []⟩
def d_sum_terms : He.DefD := ⟨("sum_terms", none), "sum_terms", "sum_terms", defArgs s_sum_terms, defBody s_sum_terms, defScope s_sum_terms, [], []⟩
def d_bare_plain : He.DefD := ⟨("bare_plain", none), "bare_plain", "bare_plain", defArgs s_bare_plain, defBody s_bare_plain, defScope s_bare_plain, [], []⟩
def d_sum_of_two : He.DefD := ⟨("sum_of_two", none), "sum_of_two", "sum_of_two", defArgs s_sum_of_two, defBody s_sum_of_two, defScope s_sum_of_two, [], []⟩
def d_bare_product : He.DefD := ⟨("bare_product", none), "bare_product", "bare_product", defArgs s_bare_product, defBody s_bare_product, defScope s_bare_product, [], []⟩
def d_bare_inverse : He.DefD := ⟨("bare_inverse", none), "bare_inverse", "bare_inverse", defArgs s_bare_inverse, defBody s_bare_inverse, defScope s_bare_inverse, [], []⟩
def d_allowed_el : He.DefD := ⟨("allowed_element", none), "allowed_element", "allowed_element", defArgs s_allowed_el, defBody s_allowed_el, defScope s_allowed_el, [], []⟩
def d_is_plain : He.DefD := ⟨("is_plain", none), "is_plain", "is_plain", defArgs s_is_plain, defBody s_is_plain, defScope s_is_plain, [], []⟩
def d_plain_elX : He.DefD := ⟨("plain", none), "plain", "plain", defArgs s_plain_elX, defBody s_plain_elX, defScope s_plain_elX, [], []⟩
def d_mul_el : He.DefD := ⟨("multiply_elements", none), "multiply_elements", "multiply_elements", defArgs s_mul_el, defBody s_mul_el, defScope s_mul_el, [], []⟩
def d_inv_el : He.DefD := ⟨("inverse_element", none), "inverse_element", "inverse_element", defArgs s_inv_el, defBody s_inv_el, defScope s_inv_el, [], []⟩
def d_law_numbers44 : He.DefD := ⟨("_law_numbers", none), "_law_numbers", "_law_numbers", defArgs s_law_numbers44, defBody s_law_numbers44, defScope s_law_numbers44, [], []⟩
def d_law_tower46 : He.DefD := ⟨("_law_tower", none), "_law_tower", "_law_tower", defArgs s_law_tower46, defBody s_law_tower46, defScope s_law_tower46, [], []⟩
def d_law_drawn46 : He.DefD := ⟨("_law_drawn", none), "_law_drawn", "_law_drawn", defArgs s_law_drawn46, defBody s_law_drawn46, defScope s_law_drawn46, [], []⟩
def d_law_low46 : He.DefD := ⟨("_law_low", none), "_law_low", "_law_low", defArgs s_law_low46, defBody s_law_low46, defScope s_law_low46, [], []⟩
def d_law_good46 : He.DefD := ⟨("_law_good", none), "_law_good", "_law_good", defArgs s_law_good46, defBody s_law_good46, defScope s_law_good46, [], []⟩
def d_law_wide46 : He.DefD := ⟨("_law_wide", none), "_law_wide", "_law_wide", defArgs s_law_wide46, defBody s_law_wide46, defScope s_law_wide46, [], []⟩
def d_law_told46 : He.DefD := ⟨("_law_told", none), "_law_told", "_law_told", defArgs s_law_told46, defBody s_law_told46, defScope s_law_told46, [], []⟩
def d_law_refused46 : He.DefD := ⟨("_law_refused", none), "_law_refused", "_law_refused", defArgs s_law_refused46, defBody s_law_refused46, defScope s_law_refused46, [], []⟩
def d_law_agrees46 : He.DefD := ⟨("_law_agrees", none), "_law_agrees", "_law_agrees", defArgs s_law_agrees46, defBody s_law_agrees46, defScope s_law_agrees46, [], []⟩
def d_law : He.DefD := ⟨("law", none), "law", "law", defArgs s_law, defBody s_law, defScope s_law, [], []⟩
def d_c_ReckonError : He.DefD := ⟨("ReckonError", some "__init__"), "__init__", "ReckonError.__init__", defArgs s_c_ReckonError, defBody s_c_ReckonError, defScope s_c_ReckonError, [.str "", .str ""], []⟩
def d_c_NotAllowed : He.DefD := ⟨("NotAllowed", some "__init__"), "__init__", "NotAllowed.__init__", defArgs s_c_NotAllowed, defBody s_c_NotAllowed, defScope s_c_NotAllowed, [.str ""], []⟩
def d_c_TooLarge : He.DefD := ⟨("TooLarge", some "__init__"), "__init__", "TooLarge.__init__", defArgs s_c_TooLarge, defBody s_c_TooLarge, defScope s_c_TooLarge, [.str ""], []⟩
def fnD : List He.DefD := [d_signed_places, d_bare_number, d_value_within, d_plus_small, d_order, d_gap, d_terms_at, d_settled, d_plus, d_index_in, d_bare_sum, d_bare_shift, d_levels, d_is_allowed, d_allowed, d_sign_of, d_compare, d_are_apart, d_has_form, d_check_number, d_of_int, d_negate, d_add, d_sum_terms, d_bare_plain, d_sum_of_two, d_bare_product, d_bare_inverse, d_allowed_el, d_is_plain, d_plain_elX, d_mul_el, d_inv_el, d_law_numbers44, d_law_tower46, d_law_drawn46, d_law_low46, d_law_good46, d_law_wide46, d_law_told46, d_law_refused46, d_law_agrees46, d_law, d_c_ReckonError, d_c_NotAllowed, d_c_TooLarge]
def tbD : List He.Tab := []
def exL (K : PySem.W.Frag) : List Bool := [conN K "FIRST_END" (.int 8),
  conN K "INTEGER_BITS" (.int 512),
  conN K "MAX_GIVEN_BITS" (.int 2900),
  conN K "MAX_HEIGHT" (.int 40),
  conN K "MAX_SIZE" (.int 300),
  conN K "MAX_TERMS" (.int 400),
  conN K "NEAR_BITS" (.int 64),
  conN K "PLACE_BITS" (.int 9),
  errN K (He.ga K "NotAllowed") "NotAllowed",
  errN K (He.ga K "TooLarge") "TooLarge",
  He.eqO (PySem.W.nsIn K mainGlobals "signed_places") (some (some (.ref (He.ga K "signed_places")))),
  He.eqO (PySem.W.nsIn K mainGlobals "bare_number") (some (some (.ref (He.ga K "bare_number")))),
  He.eqO (PySem.W.nsIn K mainGlobals "value_within") (some (some (.ref (He.ga K "value_within")))),
  He.eqO (PySem.W.nsIn K mainGlobals "plus_small") (some (some (.ref (He.ga K "plus_small")))),
  He.eqO (PySem.W.nsIn K mainGlobals "order") (some (some (.ref (He.ga K "order")))),
  He.eqO (PySem.W.nsIn K mainGlobals "gap") (some (some (.ref (He.ga K "gap")))),
  He.eqO (PySem.W.nsIn K mainGlobals "terms_at") (some (some (.ref (He.ga K "terms_at")))),
  He.eqO (PySem.W.nsIn K mainGlobals "settled") (some (some (.ref (He.ga K "settled")))),
  He.eqO (PySem.W.nsIn K mainGlobals "plus") (some (some (.ref (He.ga K "plus")))),
  He.eqO (PySem.W.nsIn K mainGlobals "index_in") (some (some (.ref (He.ga K "index_in")))),
  He.eqO (PySem.W.nsIn K mainGlobals "bare_sum") (some (some (.ref (He.ga K "bare_sum")))),
  He.eqO (PySem.W.nsIn K mainGlobals "bare_shift") (some (some (.ref (He.ga K "bare_shift")))),
  He.eqO (PySem.W.nsIn K mainGlobals "levels") (some (some (.ref (He.ga K "levels")))),
  He.eqO (PySem.W.nsIn K mainGlobals "is_allowed") (some (some (.ref (He.ga K "is_allowed")))),
  He.eqO (PySem.W.nsIn K mainGlobals "allowed") (some (some (.ref (He.ga K "allowed")))),
  He.eqO (PySem.W.nsIn K mainGlobals "sign_of") (some (some (.ref (He.ga K "sign_of")))),
  He.eqO (PySem.W.nsIn K mainGlobals "compare") (some (some (.ref (He.ga K "compare")))),
  He.eqO (PySem.W.nsIn K mainGlobals "are_apart") (some (some (.ref (He.ga K "are_apart")))),
  He.eqO (PySem.W.nsIn K mainGlobals "has_form") (some (some (.ref (He.ga K "has_form")))),
  He.eqO (PySem.W.nsIn K mainGlobals "check_number") (some (some (.ref (He.ga K "check_number")))),
  He.eqO (PySem.W.nsIn K mainGlobals "of_int") (some (some (.ref (He.ga K "of_int")))),
  He.eqO (PySem.W.nsIn K mainGlobals "negate") (some (some (.ref (He.ga K "negate")))),
  He.eqO (PySem.W.nsIn K mainGlobals "add") (some (some (.ref (He.ga K "add")))),
  He.eqO (PySem.W.nsIn K mainGlobals "sum_terms") (some (some (.ref (He.ga K "sum_terms")))),
  He.eqO (PySem.W.nsIn K mainGlobals "bare_plain") (some (some (.ref (He.ga K "bare_plain")))),
  He.eqO (PySem.W.nsIn K mainGlobals "sum_of_two") (some (some (.ref (He.ga K "sum_of_two")))),
  He.eqO (PySem.W.nsIn K mainGlobals "bare_product") (some (some (.ref (He.ga K "bare_product")))),
  He.eqO (PySem.W.nsIn K mainGlobals "bare_inverse") (some (some (.ref (He.ga K "bare_inverse")))),
  He.eqO (PySem.W.nsIn K mainGlobals "allowed_element") (some (some (.ref (He.ga K "allowed_element")))),
  He.eqO (PySem.W.nsIn K mainGlobals "is_plain") (some (some (.ref (He.ga K "is_plain")))),
  He.eqO (PySem.W.nsIn K mainGlobals "plain") (some (some (.ref (He.ga K "plain")))),
  He.eqO (PySem.W.nsIn K mainGlobals "multiply_elements") (some (some (.ref (He.ga K "multiply_elements")))),
  He.eqO (PySem.W.nsIn K mainGlobals "inverse_element") (some (some (.ref (He.ga K "inverse_element")))),
  He.eqO (PySem.W.nsIn K mainGlobals "_law_numbers") (some (some (.ref (He.ga K "_law_numbers")))),
  He.eqO (PySem.W.nsIn K mainGlobals "_law_tower") (some (some (.ref (He.ga K "_law_tower")))),
  He.eqO (PySem.W.nsIn K mainGlobals "_law_drawn") (some (some (.ref (He.ga K "_law_drawn")))),
  He.eqO (PySem.W.nsIn K mainGlobals "_law_low") (some (some (.ref (He.ga K "_law_low")))),
  He.eqO (PySem.W.nsIn K mainGlobals "_law_good") (some (some (.ref (He.ga K "_law_good")))),
  He.eqO (PySem.W.nsIn K mainGlobals "_law_wide") (some (some (.ref (He.ga K "_law_wide")))),
  He.eqO (PySem.W.nsIn K mainGlobals "_law_told") (some (some (.ref (He.ga K "_law_told")))),
  He.eqO (PySem.W.nsIn K mainGlobals "_law_refused") (some (some (.ref (He.ga K "_law_refused")))),
  He.eqO (PySem.W.nsIn K mainGlobals "_law_agrees") (some (some (.ref (He.ga K "_law_agrees")))),
  He.eqO (PySem.W.nsIn K mainGlobals "law") (some (some (.ref (He.ga K "law")))),
  He.eqO (PySem.W.nsIn K mainGlobals "NotAllowed") (some (some (.ref (He.ga K "NotAllowed")))),
  PySem.W.keepIn K (.ref (He.ga K "NotAllowed")),
  decide (PySem.W.subIn K (.ref (He.ga K "NotAllowed")) (.type "BaseException") = some true),
  decide (PySem.W.typeIn K (.ref (He.ga K "NotAllowed")) = some (.type "type")),
  He.eqO (PySem.W.findIn K (.ref (He.ga K "NotAllowed")) "__getattribute__") (some (some (.builtin "BaseException.__getattribute__"))),
  He.eqO (PySem.W.findIn K (.ref (He.ga K "NotAllowed")) "__getattr__") (some none),
  PySem.W.hasDictIn K (He.ga K "NotAllowed"),
  He.eqO (PySem.W.findIn K (.ref (He.ga K "NotAllowed")) "__class__") (some (some (.builtin "object.__class__"))),
  decide (PySem.W.mroIn K (He.ga K "NotAllowed") (.type "object") = some true),
  He.eqO (PySem.W.nsIn K mainGlobals "ReckonError") (some (some (.ref (He.ga K "ReckonError")))),
  PySem.W.keepIn K (.ref (He.ga K "ReckonError")),
  decide (PySem.W.subIn K (.ref (He.ga K "ReckonError")) (.type "BaseException") = some true),
  decide (PySem.W.typeIn K (.ref (He.ga K "ReckonError")) = some (.type "type")),
  He.eqO (PySem.W.findIn K (.ref (He.ga K "ReckonError")) "__getattribute__") (some (some (.builtin "BaseException.__getattribute__"))),
  He.eqO (PySem.W.findIn K (.ref (He.ga K "ReckonError")) "__getattr__") (some none),
  PySem.W.hasDictIn K (He.ga K "ReckonError"),
  He.eqO (PySem.W.findIn K (.ref (He.ga K "ReckonError")) "__class__") (some (some (.builtin "object.__class__"))),
  decide (PySem.W.mroIn K (He.ga K "ReckonError") (.type "object") = some true),
  He.eqO (PySem.W.nsIn K mainGlobals "TooLarge") (some (some (.ref (He.ga K "TooLarge")))),
  PySem.W.keepIn K (.ref (He.ga K "TooLarge")),
  decide (PySem.W.subIn K (.ref (He.ga K "TooLarge")) (.type "BaseException") = some true),
  decide (PySem.W.typeIn K (.ref (He.ga K "TooLarge")) = some (.type "type")),
  He.eqO (PySem.W.findIn K (.ref (He.ga K "TooLarge")) "__getattribute__") (some (some (.builtin "BaseException.__getattribute__"))),
  He.eqO (PySem.W.findIn K (.ref (He.ga K "TooLarge")) "__getattr__") (some none),
  PySem.W.hasDictIn K (He.ga K "TooLarge"),
  He.eqO (PySem.W.findIn K (.ref (He.ga K "TooLarge")) "__class__") (some (some (.builtin "object.__class__"))),
  decide (PySem.W.mroIn K (He.ga K "TooLarge") (.type "object") = some true),
  fndN K (.type "ValueError") "__init__" (.builtin "ValueError.__init__"),
  He.eqO (PySem.W.findIn K (.ref (He.ga K "ReckonError")) "__init__") (some (some (.ref (He.ma K (He.ga K "ReckonError") "__init__")))),
  decide (PySem.W.typeIn K (.ref (He.ma K (He.ga K "ReckonError") "__init__")) = some (.type "function")),
  PySem.W.readsIn K (He.ga K "ReckonError") (.type "type"),
  He.eqO (PySem.W.specialIn K (.ref (He.ga K "ReckonError")) "__getattribute__") (some (some (.builtin "type.__getattribute__"))),
  fndN K (.ref (He.ga K "ReckonError")) "__init__" (.ref (He.ma K (He.ga K "ReckonError") "__init__")),
  He.eqO (PySem.W.findIn K (.ref (He.ga K "NotAllowed")) "__init__") (some (some (.ref (He.ma K (He.ga K "NotAllowed") "__init__")))),
  decide (PySem.W.typeIn K (.ref (He.ma K (He.ga K "NotAllowed") "__init__")) = some (.type "function")),
  He.eqO (PySem.W.findIn K (.ref (He.ga K "NotAllowed")) "__setattr__") (some (some (.builtin "object.__setattr__"))),
  He.eqO (PySem.W.findIn K (.ref (He.ga K "NotAllowed")) "word") (some none),
  He.eqO (PySem.W.findIn K (.ref (He.ga K "TooLarge")) "__init__") (some (some (.ref (He.ma K (He.ga K "TooLarge") "__init__")))),
  decide (PySem.W.typeIn K (.ref (He.ma K (He.ga K "TooLarge") "__init__")) = some (.type "function")),
  He.eqO (PySem.W.findIn K (.ref (He.ga K "TooLarge")) "__setattr__") (some (some (.builtin "object.__setattr__"))),
  He.eqO (PySem.W.findIn K (.ref (He.ga K "TooLarge")) "word") (some none),
  He.eqO (PySem.W.specialIn K (.builtin "object.__class__") "__get__") (some (some (.builtin "getset_descriptor.__get__"))),
  decide (PySem.W.takesIn K (.builtin "object.__class__") = some true),
  decide (PySem.W.subIn K (.ref (He.ga K "TooLarge")) (.ref (He.ga K "TooLarge")) = some true),
  decide (PySem.W.subIn K (.ref (He.ga K "TooLarge")) (.ref (He.ga K "ReckonError")) = some true),
  decide (PySem.W.subIn K (.ref (He.ga K "TooLarge")) (.ref (He.ga K "NotAllowed")) = some false),
  He.eqO (PySem.W.nsIn K mainGlobals "ValueError") (some none),
  He.eqO (PySem.W.nsIn K mainGlobals "abs") (some none),
  He.eqO (PySem.W.nsIn K mainGlobals "all") (some none),
  He.eqO (PySem.W.nsIn K mainGlobals "int") (some none),
  He.eqO (PySem.W.nsIn K mainGlobals "isinstance") (some none),
  He.eqO (PySem.W.nsIn K mainGlobals "len") (some none),
  He.eqO (PySem.W.nsIn K mainGlobals "list") (some none),
  He.eqO (PySem.W.nsIn K mainGlobals "max") (some none),
  He.eqO (PySem.W.nsIn K mainGlobals "range") (some none),
  He.eqO (PySem.W.nsIn K mainGlobals "sum") (some none),
  He.eqO (PySem.W.nsIn K mainGlobals "tuple") (some none),
  He.eqO (PySem.W.nsIn K mainGlobals "zip") (some none),
  He.eqO (PySem.W.nsIn K mainGlobals "FIRST_NUMBERS") (some (some (.ref (He.ga K "FIRST_NUMBERS")))),
  datN K 14 (He.ga K "FIRST_NUMBERS") (.tuple [.tuple [], .tuple [.tuple [.int 1, .tuple []]], .tuple [.tuple [.int 1, .tuple [.tuple [.int 1, .tuple []]]]], .tuple [.tuple [.int 1, .tuple [.tuple [.int 1, .tuple [.tuple [.int 1, .tuple []]]]]], .tuple [.int (-1), .tuple []]], .tuple [.tuple [.int 1, .tuple [.tuple [.int 1, .tuple [.tuple [.int 1, .tuple []]]]]]], .tuple [.tuple [.int 1, .tuple [.tuple [.int 1, .tuple [.tuple [.int 1, .tuple []]]]]], .tuple [.int 1, .tuple []]], .tuple [.tuple [.int 1, .tuple [.tuple [.int 1, .tuple [.tuple [.int 1, .tuple [.tuple [.int 1, .tuple []]]]]], .tuple [.int (-1), .tuple []]]], .tuple [.int (-1), .tuple [.tuple [.int 1, .tuple []]]]], .tuple [.tuple [.int 1, .tuple [.tuple [.int 1, .tuple [.tuple [.int 1, .tuple [.tuple [.int 1, .tuple []]]]]], .tuple [.int (-1), .tuple []]]], .tuple [.int (-1), .tuple []]]]),
  He.eqO (PySem.W.nsIn K mainGlobals "UNIT") (some (some (.ref (He.ga K "UNIT")))),
  datN K 5 (He.ga K "UNIT") (.tuple [.tuple [], .tuple [], .tuple []])]
abbrev rowL : PySem.W.OpenRow := PySem.W.OpenLaw.row PySem.Challenge.rw_sandreckoner_k46_great_elements
def looseL : List Str := (["__name__", "FIRST_END", "FIRST_NUMBERS", "signed_places", "bare_number", "value_within", "plus_small", "NEAR_BITS", "INTEGER_BITS", "PLACE_BITS", "order", "gap", "terms_at", "settled", "plus", "index_in", "bare_sum", "bare_shift", "ReckonError", "NotAllowed", "TooLarge", "MAX_SIZE", "MAX_HEIGHT", "MAX_GIVEN_BITS", "levels", "is_allowed", "allowed", "check_number", "has_form", "are_apart"] : List Str) ++ (["compare", "sign_of", "of_int", "MAX_TERMS", "negate", "add", "sum_terms", "bare_plain", "sum_of_two", "bare_product", "bare_inverse", "UNIT", "allowed_element", "is_plain", "plain", "multiply_elements", "inverse_element", "_law_numbers", "_law_tower", "_law_drawn", "_law_low", "_law_good", "_law_wide", "_law_told", "_law_refused", "_law_agrees"] : List Str)
abbrev viewL : Program := PySem.W.view rowL.prog [63]
def adL : List Nat := [2, 3, 6, 4, 77, 84, 89, 96, 103, 110, 117, 122, 129, 136, 143, 150, 155, 173, 194, 214, 221, 226, 233, 240, 245, 252, 259, 266, 273, 278, 285, 292, 299, 306, 313, 320, 324, 329, 336, 343, 350, 357, 364, 371, 378, 385, 392, 399, 406, 413, 420, 425, 0, 15, 18, 23, 32, 39, 48, 63, 76, 83, 88, 95, 102, 109, 116, 121, 128, 135, 142, 149, 154, 172, 193, 213, 220, 225, 232, 239, 244, 251, 258, 265, 272, 277, 284, 291, 298, 305, 312, 319, 321, 322, 323, 328, 335, 342, 349, 356, 363, 370, 377, 384, 391, 398, 405, 412, 419, 424, 17, 22, 29, 31, 38, 45, 47, 58, 62, 73, 75, 170, 171, 174, 191, 192, 211, 212, 16, 21, 28, 30, 37, 44, 46, 57, 61, 72, 74, 169, 163, 190, 184, 210, 204, 20, 27, 36, 43, 54, 56, 60, 69, 71, 19, 26, 35, 42, 53, 55, 59, 68, 70, 25, 34, 41, 52, 67, 24, 33, 40, 51, 66, 50, 65, 49, 64]
set_option maxHeartbeats 0 in
theorem head_run1 (w : World) : HandSHeadRun.RunEq rowL viewL (hookN adL fnD tbD exL) (obN adL fnD tbD exL) 20000 looseL (w.withFollow "special-get-raises" true) := by intro os; kernel_rfl
set_option maxHeartbeats 0 in
theorem head_run2 (w : World) : HandSHeadRun.RunEq rowL viewL (hookN adL fnD tbD exL) (obN adL fnD tbD exL) 20000 looseL (w.withFollow "special-get-raises" false) := by intro os; kernel_rfl
theorem head_run (w : World) : HandSHeadRun.RunEq rowL viewL (hookN adL fnD tbD exL) (obN adL fnD tbD exL) 20000 looseL w := PySem.W.byRow2 "special-get-raises" (P := fun w => HandSHeadRun.RunEq rowL viewL (hookN adL fnD tbD exL) (obN adL fnD tbD exL) 20000 looseL w) (fun w => head_run2 w) (fun w => head_run1 w) w
end Sk
set_option Elab.async false
set_option linter.all false
set_option maxRecDepth 100000
set_option maxHeartbeats 2000000
namespace Sk
open PySem L2 Evl
def pSigned : V → Hp → VP → Prop := fun x H R => ∃ (n : Int) (k : Nat), x = .int n ∧ k ≤ 70000 ∧ n.natAbs ≤ 2 ^ k ∧ R = ListR PairI (naf n 0)
def sp_signed_places (K : PySem.W.Frag) : Sp := spF1 pSigned
/-- n & -n -/
def xLow : R2 := fun x y H Q => ∃ (k : Nat) (a : Int), x = .int (2 ^ k * (2 * a + 1)) ∧ y = .int (-(2 ^ k * (2 * a + 1))) ∧ Q (.int (2 ^ k)) H
theorem op_low {X : Cx} : OpR X (binaryOp .BitAnd) xLow := fun pins s σ H x y v u Q I rx ry h => by
  obtain ⟨k, a, rfl, rfl, q⟩ := h
  rw [← PySem.W.kbt_low k a] at q
  exact op_and pins s σ H _ _ v u Q I rx ry ⟨_, _, rfl, rfl, q⟩
def t_signed_places (K : PySem.W.Frag) : TS := (tSeq (tAsg (tLst tNil) (gName 1))
    (tSeq (tAsg (tC (.int 0)) (gName 2))
    (tSeq (tWhile (tTest (tOp rNe (tVar 0) (tC (.int 0)))) (tSeq (tAsg (tOp xSub (tBits (tOp xLow (tVar 0) (tUn xNeg (tVar 0)))) (tC (.int 1))) (gName 3))
    (tSeq (tAug 2 (tVar 3) (ipI fun i j => i + j))
    (tSeq (tAug 0 (tVar 3) xShr)
    (tSeq (tAsg (tOp xSub (tC (.int 2)) (tOp xAndM (tVar 0) (tC (.int 3)))) (gName 4))
    (tSeq (tDrop (tBM K "list" rAppend (tVar 1) (tCons (tTup (tCons (tVar 4) (tCons (tVar 2) tNil))) tNil)))
    (tAug 0 (tVar 4) (ipI fun i j => i - j))))))))
    (tRet (tVar 1)))))
theorem naf_len : ∀ (k : Nat) (n : Int) (p : Nat), n.natAbs ≤ 2 ^ k → (naf n p).length ≤ k + 1
  | 0, n, p, h => by
    have h' : n = 0 ∨ n = 1 ∨ n = -1 := by simp at h; omega
    rcases h' with rfl | rfl | rfl
    · rw [naf_zero]; exact Nat.zero_le _
    · rw [naf_odd (by decide), show ((1 : Int) - (2 - 1 % 4)) / 2 = 0 by decide, naf_zero]; exact Nat.le_refl _
    · rw [naf_odd (by decide), show ((-1 : Int) - (2 - -1 % 4)) / 2 = 0 by decide, naf_zero]; exact Nat.le_refl _
  | k + 1, n, p, h => by
    rw [Nat.pow_succ] at h
    rcases Int.emod_two_eq n with q | q
    · rw [naf_even q]
      exact Nat.le_trans (naf_len k (n / 2) (p + 1) (by omega)) (by omega)
    · rw [naf_odd q, List.length_cons]
      have h1 : 0 < 2 ^ k := Nat.two_pow_pos k
      exact Nat.succ_le_succ (naf_len k _ (p + 1) (by omega))
theorem naf_shift (m : Int) : ∀ (k p : Nat), naf (2 ^ k * m) p = naf m (p + k)
  | 0, p => by rw [Int.pow_zero, Int.one_mul]; rfl
  | k + 1, p => by
    have e : (2 : Int) ^ (k + 1) * m = 2 * (2 ^ k * m) := by rw [Int.pow_succ, Int.mul_comm (2 ^ k) 2, Int.mul_assoc]
    rw [e, naf_even (by omega)]
    have e2 : 2 * (2 ^ k * m) / 2 = 2 ^ k * m := by omega
    rw [e2, naf_shift m k (p + 1)]
    congr 1
    omega
theorem odd_part : ∀ (j : Nat) (n : Int), n.natAbs ≤ j → n ≠ 0 → ∃ (k : Nat) (a : Int), n = 2 ^ k * (2 * a + 1)
  | 0, n, h, h0 => absurd (by omega) h0
  | j + 1, n, h, h0 => by
    rcases Int.emod_two_eq n with q | q
    · obtain ⟨k, a, e⟩ := odd_part j (n / 2) (by omega) (by omega)
      refine ⟨k + 1, a, ?_⟩
      rw [Int.pow_succ, Int.mul_comm (2 ^ k) 2, Int.mul_assoc, ← e]
      omega
    · exact ⟨0, n / 2, by rw [Int.pow_zero, Int.one_mul]; omega⟩
theorem ip_shr {X : Cx} : PIp X .RShift xShr := fun pins s σ H x y v u Q I r1 r2 h => iop_shr pins s σ H x y v u Q I r1 r2 h
theorem bits_two_pow (k : Nat) : Builtin.Int.intBits ((2 : Int) ^ k) = k + 1 := by
  unfold Builtin.Int.intBits
  have h : ((2 : Int) ^ k).natAbs = 2 ^ k := by rw [Int.natAbs_pow]; rfl
  have h0 : (2 : Int) ^ k ≠ 0 := Int.pow_ne_zero (by decide)
  rw [h, Nat.log2_two_pow]
  split
  · rename_i q
    have : (2 : Nat) ^ k ≠ 0 := Nat.pos_iff_ne_zero.mp (Nat.two_pow_pos k)
    simp at q
    first | exact absurd q h0 | exact absurd q this
  · rfl
theorem q_shr {σ : L2.St} {H : Hp} {D : Ends} {tz : TS} {i : Nat} {a : Int} {k : Nat} {te : TE} (hx : σ[i]? = some (some (.int a))) (h : Ev te σ H (.int (k : Int))) (n : ∀ H1, Ex H H1 → tz D (σ.set i (some (.int (a / 2 ^ k)))) H1) : tSeq (tAug i te xShr) tz D σ H :=
  ⟨.int a, hx, h H (Ex.refl H) _ fun H1 e => ⟨a, (k : Int), rfl, rfl, by omega, n H1 e⟩⟩
def WSigned (n : Int) (l : Addr) (H0 : Hp) (m : Nat) (σ : L2.St) (H : Hp) : Prop := ∃ (r : Int) (p : Nat) (z z' : Option V) (ys : List V) (acc : List (Int × Nat)),
  σ = [some (.int r), some (.ref l), some (.int (p : Int)), z, z'] ∧ m = (naf r p).length ∧ H0 l = none ∧ Ex H0 H ∧ H l = some (.lst ys) ∧ ItemsR PairI acc ys H ∧ acc ++ naf r p = naf n 0
theorem pure_signed_places {K : PySem.W.Frag} {vs : List V} {H : Hp} {Q : VK} {E : XK} (h : sp_signed_places K vs H Q E) : t_signed_places K { nx := fun _ H' => Q .non H', rt := Q } (start ["value", "found", "place", "zeros", "sign"] vs) H := by
  obtain ⟨x, R, rfl, ⟨n, kb, rfl, hkb, hb, rfl⟩, k⟩ := h
  have hlen := naf_len _ n 0 hb
  refine q_asgL (el_lst ea_nil (by decide)) fun l H1 hl e1 h1 => ?_
  refine q_asg ev_c fun H2 e2 => ?_
  refine q_while' (WSigned n l H) (naf n 0).length ⟨n, 0, none, none, [], [], rfl, rfl, hl, e1.trans e2, e2 l _ h1, .nil, rfl⟩ ?_
  rintro m σ' H' ⟨r, p, z, z', ys, acc, rfl, rfl, hl0, e3, h3, h4, h5⟩
  refine ⟨!decide (V.int r = V.int 0), et_test (ev_ne (ev_var rfl) ev_c rfl), fun hb1 H4 e4 => ?_, fun hb1 H4 e4 => ?_⟩
  · have hr : r ≠ 0 := fun q => by subst q; simp at hb1
    obtain ⟨kk, a, hra⟩ := odd_part _ r (Nat.le_refl _) hr
    have hys : ys.length < 100000 := by
      have := congrArg List.length h5
      rw [List.length_append, ← h4.1] at this
      omega
    have hodd : (2 * a + 1) % 2 = 1 := by omega
    have hnaf : naf r p = (2 - (2 * a + 1) % 4, p + kk) :: naf (2 * a + 1 - (2 - (2 * a + 1) % 4)) (p + kk) := by
      rw [hra, naf_shift, naf_odd hodd, naf_even (n := 2 * a + 1 - (2 - (2 * a + 1) % 4)) (by omega)]
    have hq : r / 2 ^ kk = 2 * a + 1 := by
      rw [hra]
      exact Int.mul_ediv_cancel_left _ (Int.pow_ne_zero (by decide))
    have low : Ev (tOp xLow (tVar 0) (tUn xNeg (tVar 0))) [some (V.int r), some (.ref l), some (.int (p : Int)), z, z'] H4 (.int (2 ^ kk)) := ev_op (ev_var rfl) (ev_neg (ev_var rfl)) fun H1 _ Q q => ⟨kk, a, by rw [hra], by rw [hra], q H1 (Ex.refl H1)⟩
    refine q_asg (v := .int (kk : Int)) (ev_is (ev_sub (ev_bits low) ev_c) (by rw [bits_two_pow]; congr 1; omega)) fun H5 e5 => ?_
    refine q_aug (a := (p : Int)) (b := (kk : Int)) rfl (ev_var rfl) fun H6 e6 => ?_
    refine q_shr (a := r) (k := kk) rfl (ev_var rfl) fun H7 e7 => ?_
    rw [hq]
    refine q_asg (ev_sub ev_c (ev_andM (k := 2) (ev_var rfl) ev_c)) fun H8 e8 => ?_
    have e48 : Ex H' H8 := e4.trans (e5.trans (e6.trans (e7.trans e8)))
    refine q_appU (ys := [.int (2 - (2 * a + 1) % 2 ^ 2), .int ((p : Int) + (kk : Int))]) (e48 l _ h3) (ev_var rfl) (eu_tup (ea_cons (ev_var rfl) (ea_cons (ev_var rfl) ea_nil)) (by show 2 ≤ 100000; decide)) hys fun q H9 hq9 e9 h9 => ?_
    have e49 := e48.trans e9
    have hlt : TEx H9 (upd H9 l (.lst (ys ++ [V.ref q]))) := TEx.put (e49 l _ h3)
    have e22 : (2 : Int) ^ 2 = 4 := by decide
    have hnl : q ≠ l := fun e => by rw [e, e49 l _ h3] at h9; cases h9
    refine s_aug (a := 2 * a + 1) (b := 2 - (2 * a + 1) % 2 ^ 2) rfl (ev_var rfl) fun H10 e10 => ?_
    refine ⟨(naf (2 * a + 1 - (2 - (2 * a + 1) % 4)) (p + kk)).length, by rw [hnaf, List.length_cons]; exact Nat.lt_succ_self _, 2 * a + 1 - (2 - (2 * a + 1) % 4), p + kk, some (.int (kk : Int)), some (.int (2 - (2 * a + 1) % 2 ^ 2)), ys ++ [V.ref q], acc ++ [(2 - (2 * a + 1) % 4, p + kk)], by rw [e22]; rfl, rfl, hl0, (Ex.mut (e3.trans e49) hl0).trans e10, e10 l _ upd_same, ?_, by rw [← h5, hnaf, List.append_assoc]; rfl⟩
    refine ItemsR.tex pairI (H := upd H9 l (.lst (ys ++ [V.ref q]))) ?_ (Ex.t e10)
    exact (h4.tex pairI ((Ex.t e49).trans hlt)).snoc ⟨q, rfl, by rw [upd_ne hnl, h9, e22]; rfl⟩
  · have hr : r = 0 := by simpa using hb1
    subst hr
    rw [naf_zero, List.append_nil] at h5
    subst h5
    refine s_ret (ev_var rfl) fun H5 e5 => k _ _ ((e3.trans e4).trans e5) ⟨l, ys, rfl, e5 l _ (e4 l _ h3), h4.tex pairI (Ex.t (e4.trans e5))⟩
end Sk
set_option Elab.async false
set_option linter.all false
set_option maxRecDepth 100000
set_option maxHeartbeats 2000000
namespace Sk
open PySem L2 Evl
/-- how great a number may be for d calls, one in another -/
def Cb : Nat → Nat
  | 0 => 0
  | 1 => 1
  | d + 2 => 2 ^ (Cb (d + 1) - 1) + 1
theorem Cb_pos : ∀ d, 1 ≤ Cb (d + 1)
  | 0 => Nat.le_refl _
  | d + 1 => Nat.le_add_left 1 _
theorem Cb_step {d : Nat} {n : Int} (h : n.natAbs < Cb (d + 1)) {x : Int × Nat} (hx : x ∈ naf n 0) : x.2 < Cb d := by
  cases d with
  | zero =>
    have : n = 0 := by
      have : n.natAbs < 1 := h
      omega
    subst this; rw [naf_zero] at hx; cases hx
  | succ d =>
    have h' : n.natAbs < 2 ^ (Cb (d + 1) - 1) + 1 := h
    have := naf_le (m := Cb (d + 1) - 1) (by omega) hx
    have := Cb_pos d
    omega
theorem Cb7 : Cb 7 = 2 ^ 65536 + 1 := by
  have h3 : Cb 3 = 3 := by decide
  have h4 : Cb 4 = 5 := by show 2 ^ (Cb 3 - 1) + 1 = 5; rw [h3] <;> rfl
  have h5 : Cb 5 = 17 := by show 2 ^ (Cb 4 - 1) + 1 = 17; rw [h4] <;> rfl
  have h6 : Cb 6 = 65537 := by show 2 ^ (Cb 5 - 1) + 1 = 65537; rw [h5] <;> rfl
  show 2 ^ (Cb 6 - 1) + 1 = 2 ^ 65536 + 1
  rw [h6]
theorem Cb7_ge : 2 ^ 65536 ≤ Cb 7 := by
  rw [Cb7]
  exact Nat.le_add_right _ _
theorem lt_Cb7 {m k : Nat} (h : m < 2 ^ k) (hk : k ≤ 65536) : m < Cb 7 := Nat.lt_of_lt_of_le h (Nat.le_trans (Nat.pow_le_pow_right (by decide) hk) Cb7_ge)
theorem Cb_mono : ∀ d, Cb d ≤ Cb (d + 1)
  | 0 => by decide
  | 1 => by decide
  | d + 2 => by
    have h := Cb_mono (d + 1)
    show 2 ^ (Cb (d + 1) - 1) + 1 ≤ 2 ^ (Cb (d + 2) - 1) + 1
    exact Nat.succ_le_succ (Nat.pow_le_pow_right (by decide) (Nat.sub_le_sub_right h 1))
theorem Cb_le : ∀ {d : Nat}, d ≤ 7 → Cb d ≤ 2 ^ 65536 + 1 := fun {d} h => by
  rw [← Cb7]
  have : ∀ k, Cb d ≤ Cb (d + k) := fun k => by
    induction k with
    | zero => exact Nat.le_refl _
    | succ k ih => exact Nat.le_trans ih (Cb_mono _)
  have h2 := this (7 - d)
  rw [show d + (7 - d) = 7 by omega] at h2
  exact h2
def pBare (K : PySem.W.Frag) (d : Nat) : V → Hp → VP → Prop := fun x H R => ∃ n : Int, x = .int n ∧ n.natAbs < Cb d ∧ d ≤ 7 ∧ R = fun v H' => NumV K H' v (toT n)
def sp_bare_number (K : PySem.W.Frag) (d : Nat) : Sp := spF1 (pBare K d)
def t_bare_number (K : PySem.W.Frag) (a_FIRST_NUMBERS : Addr) (d : Nat) : TS := (tSeq (tIfS (tTest (tChain xLe xLt (tC (.int 0)) (tVar 0) (tC (.int 8)))) (tRet (tOp (rIxT K) (tC (.ref a_FIRST_NUMBERS)) (tVar 0))) tNext)
    (tRet (tThen (tLc (iList K (tRevL K (tCall (sp_signed_places K) [] E0 (tCons (tVar 0) tNil)))) (gTup K 2 (gCons (gName 1) (gCons (gName 2) gNil))) tYes (tTup (tCons (tVar 1) (tCons (tCall (sp_bare_number K d) [] E0 (tCons (tVar 2) tNil)) tNil))) [1, 2]) (kTup K))))
/-- a term: a sign and a number -/
def TermI (K : PySem.W.Frag) (x : Int × T) : VP := fun v H => ∃ q w, v = .ref q ∧ SqT K H q [.int x.1, w] ∧ NumV K H w x.2
theorem termI {K : PySem.W.Frag} (x : Int × T) : MonoT (TermI K x) := fun v H H' e ⟨q, w, h1, h2, h3⟩ => ⟨q, w, h1, tex_sqt e h2, h3.tex e⟩
theorem termIm {K : PySem.W.Frag} {x : Int × T} : Mono (TermI K x) := (termI x).mono
theorem terms_items {K : PySem.W.Frag} {l : List (Int × T)} {ys : List V} {H : Hp} (h : ItemsR (TermI K) l ys H) : TermsV K H ys (ofL l) :=
  TermsV.of h.1 fun i x s e h1 h2 => by
    obtain ⟨q, w, g1, g2, g3⟩ := h.2 i x (s, e) h1 h2
    exact ⟨q, w, g1, g2, g3⟩
theorem items_terms {K : PySem.W.Frag} {t : T} {ys : List V} {H : Hp} (h : TermsV K H ys t) : ItemsR (TermI K) t.toL ys H :=
  ⟨h.len, fun i y x h1 h2 => by
    obtain ⟨p, s, e, w, g1, g2, g3, g4⟩ := h.get h1
    rw [h2] at g2
    cases g2
    exact ⟨p, w, g1, g3, g4⟩⟩
section
variable {K : PySem.W.Frag} {σ : L2.St} {H : Hp} {te tl : TE} {g : TG} {vs : List Nat}
/-- a comprehension over a list whose items stand for l, its own items standing for l too -/
theorem er_lcI {α : Type} {R1 R2 : α → VP} {l : List α} (hsrc : ER tl σ H (fun v H2 => ∃ a xs, v = .ref a ∧ SqL K H2 a xs ∧ ItemsR R1 l xs H2)) (m1 : ∀ a, Mono (R1 a)) (m2 : ∀ a, MonoT (R2 a)) (hz : l.length < 100000)
    (hb : ∀ (i : Nat) (a : α) x H1, l[i]? = some a → R1 a x H1 → Ex H H1 → ∀ Qk : VK, (∀ v H2, Ex H1 H2 → R2 a v H2 → Qk v H2) → g x (wipe σ vs) H1 fun σ2 H2 => wipe σ2 vs = wipe σ vs ∧ te σ2 H2 Qk) :
    ER (tLc (iList K tl) g tYes te vs) σ H (fun v H2 => ∃ p ys, v = .ref p ∧ H p = none ∧ H2 p = some (.lst ys) ∧ ItemsR R2 l ys H2) :=
  (er_lcL (S := fun xs H2 => ItemsR R1 l xs H2) (R := fun xs i v H2 => ∀ a, l[i]? = some a → R2 a v H2) hsrc (fun _ _ _ e h => h.ex m1 e) (fun xs H2 h => by rw [h.1]; exact hz) (fun xs i v H1 H2 e h a ha => m2 a v H1 H2 e (h a ha))
    (fun xs i x H1 hi e hS Qk q => by
      obtain ⟨a, ha, r⟩ := hS.of_at hi
      exact hb i a x H1 ha r e Qk fun v H2 e2 r2 => q v H2 e2 fun b hb => by rw [ha] at hb; cases hb; exact r2)).imp
    fun v H2 e ⟨p, xs, ys, h1, h2, h3, h4, h5, h6⟩ => ⟨p, ys, h1, h2, h3, h5.trans h4.1, fun i y a g1 g2 => h6 i y g1 a g2⟩
theorem er_lcIT {α : Type} {R1 R2 : α → VP} {l : List α} (hsrc : ER tl σ H (fun v H2 => ∃ a xs, v = .ref a ∧ SqT K H2 a xs ∧ ItemsR R1 l xs H2)) (m1 : ∀ a, Mono (R1 a)) (m2 : ∀ a, MonoT (R2 a)) (hz : l.length < 100000)
    (hb : ∀ (i : Nat) (a : α) x H1, l[i]? = some a → R1 a x H1 → Ex H H1 → ∀ Qk : VK, (∀ v H2, Ex H1 H2 → R2 a v H2 → Qk v H2) → g x (wipe σ vs) H1 fun σ2 H2 => wipe σ2 vs = wipe σ vs ∧ te σ2 H2 Qk) :
    ER (tLc (iTup K tl) g tYes te vs) σ H (fun v H2 => ∃ p ys, v = .ref p ∧ H p = none ∧ H2 p = some (.lst ys) ∧ ItemsR R2 l ys H2) :=
  (er_lcT (S := fun xs H2 => ItemsR R1 l xs H2) (R := fun xs i v H2 => ∀ a, l[i]? = some a → R2 a v H2) hsrc (fun _ _ _ e h => h.ex m1 e) (fun xs H2 h => by rw [h.1]; exact hz) (fun xs i v H1 H2 e h a ha => m2 a v H1 H2 e (h a ha))
    (fun xs i x H1 hi e hS Qk q => by
      obtain ⟨a, ha, r⟩ := hS.of_at hi
      exact hb i a x H1 ha r e Qk fun v H2 e2 r2 => q v H2 e2 fun b hb => by rw [ha] at hb; cases hb; exact r2)).imp
    fun v H2 e ⟨p, xs, ys, h1, h2, h3, h4, h5, h6⟩ => ⟨p, ys, h1, h2, h3, h5.trans h4.1, fun i y a g1 g2 => h6 i y g1 a g2⟩
/-- tuple(e), e a list -/
theorem er_tupleOf {R : List V → Hp → Prop} (h : ER te σ H (fun v H2 => ∃ p ys, v = .ref p ∧ SqL K H2 p ys ∧ R ys H2)) (m : MonoL R) : ER (tThen te (kTup K)) σ H (fun v H2 => ∃ p ys, v = .ref p ∧ H2 p = some (.tup ys) ∧ R ys H2) := fun H1 e Q q =>
  h H1 e _ fun v H2 e2 ⟨p, ys, h1, h2, h3⟩ => .inl ⟨p, ys, h1, h2, fun r hr => q _ _ (e2.trans (Ex.new hr)) ⟨r, ys, rfl, upd_same, m ys _ _ (Ex.new hr) h3⟩⟩
theorem er_revL {R : List V → Hp → Prop} (h : ER te σ H (fun v H2 => ∃ p ys, v = .ref p ∧ SqL K H2 p ys ∧ R ys H2)) (m : MonoL R) : ER (tRevL K te) σ H (fun v H2 => ∃ p ys, v = .ref p ∧ SqL K H2 p ys.reverse ∧ R ys H2) := fun H1 e Q q =>
  h H1 e _ fun v H2 e2 ⟨p, ys, h1, h2, h3⟩ => ⟨p, ys, h1, h2, fun r hr => q _ _ (e2.trans (Ex.new hr)) ⟨r, ys, rfl, sq_of upd_same, m ys _ _ (Ex.new hr) h3⟩⟩
end
theorem et_chainI {K : PySem.W.Frag} {σ : L2.St} {H : Hp} {ta tb tc : TE} {i j k : Int} (ha : Ev ta σ H (.int i)) (hb : Ev tb σ H (.int j)) (hc : Ev tc σ H (.int k)) : EvT (tTest (tChain xLe xLt ta tb tc)) σ H (decide (i ≤ j) && decide (j < k)) := fun H1 e Q q =>
  ha H1 e _ fun H2 e2 => hb H2 (e.trans e2) _ fun H3 e3 => ⟨i, j, rfl, rfl, decide (i ≤ j), rfl, by
    by_cases h : i ≤ j
    · rw [if_pos (decide_eq_true h)]
      refine hc H3 (e.trans (e2.trans e3)) _ fun H4 e4 => ⟨j, k, rfl, rfl, decide (j < k), rfl, ?_⟩
      have := q H4 (e2.trans (e3.trans e4))
      rw [decide_eq_true h, Bool.true_and] at this
      exact this
    · rw [if_neg (by rw [decide_eq_false h]; decide)]
      refine ⟨false, rfl, ?_⟩
      have := q H3 (e2.trans e3)
      rw [decide_eq_false h, Bool.false_and] at this
      exact this⟩
theorem pure_bare_number {K : PySem.W.Frag} {a_FIRST_NUMBERS : Addr} (hF : FirstAt K a_FIRST_NUMBERS) {d : Nat} {vs : List V} {H : Hp} {Q : VK} {E : XK} (h : sp_bare_number K (d + 1) vs H Q E) : t_bare_number K a_FIRST_NUMBERS d { nx := fun _ H' => Q .non H', rt := Q } (start ["value", "sign", "place"] vs) H := by
  obtain ⟨x, R, rfl, ⟨n, rfl, hb, hd, rfl⟩, k⟩ := h
  have hn : n.natAbs ≤ 2 ^ 65536 := by have := Cb_le hd; omega
  have hlen := naf_len _ n 0 hn
  refine q_when (et_chainI (K := K) ev_c (ev_var rfl) ev_c) (fun hc H0 e0 => ?_) (fun hc H0 e0 => ?_)
  · rw [Bool.and_eq_true, decide_eq_true_eq, decide_eq_true_eq] at hc
    obtain ⟨m, rfl⟩ : ∃ m : Nat, n = (m : Int) := ⟨n.toNat, by omega⟩
    obtain ⟨xs, hs, hit⟩ := hF.out H0
    obtain ⟨y, hy, hN⟩ := hit.at (first_at (i := m) (by omega))
    exact s_ret (ev_atT ev_c (ev_var rfl) hs (atI_nat hy)) fun H1 e1 => k _ _ (e0.trans e1) (NumV.ex hN e1)
  refine s_retR (er_tupleOf (R := fun ys H2 => ItemsR (TermI K) ((naf n 0).reverse.map fun x : Int × Nat => (x.1, toT (x.2 : Int))) ys H2) ?_ (fun ys H1 H2 e h => h.tex termI (Ex.t e))) fun v H1 e1 ⟨p, ys, hv, h1, h2⟩ => k v H1 (e0.trans e1) ?_
  · refine (er_lcI (R1 := PairI) (R2 := fun x : Int × Nat => TermI K (x.1, toT (x.2 : Int))) (l := (naf n 0).reverse) ?_ (fun a => (pairI a).mono) (fun a => termI _) (by rw [List.length_reverse]; omega) ?_).imp ?_
    · refine (er_revL (R := fun ys H2 => ItemsR PairI (naf n 0) ys H2) ((er_call1 (R1 := fun v _ => v = .int n) (er_is (ev_var rfl)) monoC fun v H1 e hv => ⟨n, 65536, hv, by decide, hn, rfl⟩).imp ?_) (fun ys H1 H2 e h => h.tex pairI (Ex.t e))).imp fun v H1 e ⟨p, ys, hv, h1, h2⟩ => ⟨p, _, hv, h1, h2.rev⟩
      exact fun v H1 e h => by
        obtain ⟨p, ys, hv, h1, h2⟩ := h
        exact ⟨p, ys, hv, sq_of h1, h2⟩
    · rintro i ⟨s, pl⟩ x H1 hi ⟨q, rfl, hq⟩ e1 Qk kk
      refine g_pair (st_of hq) ⟨rfl, ?_⟩
      have hm : (s, pl) ∈ naf n 0 := List.mem_reverse.mp (List.mem_of_getElem? hi)
      have hp : ((pl : Nat) : Int).natAbs < Cb d := by have := Cb_step hb hm; simpa using this
      refine (er_tup (ea_two (R := fun v _ => v = .int s) (R' := fun v H2 => NumV K H2 v (toT (pl : Int))) (er_is (ev_var rfl)) monoC (er_call1 (R1 := fun v _ => v = .int (pl : Int)) (er_is (ev_var rfl)) monoC fun v H2 e2 hv => ⟨pl, hv, hp, by omega, rfl⟩) (numT.mono))
        (fun vs H2 H3 e ⟨v, w, h1, h2, h3⟩ => ⟨v, w, h1, h2, h3.ex e⟩) (fun vs H2 ⟨v, w, h1, _⟩ => by rw [h1]; show 2 ≤ 100000; omega)) H1 (Ex.refl H1) _ fun v H2 e2 ⟨p, vs, hv, h1, u, w, h2, h3, h4⟩ => kk v H2 e2 ⟨p, w, hv, st_of (by rw [h1, h2, h3]), h4⟩
    · exact fun v H1 e ⟨p, ys, hv, h1, h2, h3⟩ => ⟨p, ys, hv, sq_of h2, by rw [List.length_map]; exact h3.1, fun i y a g1 g2 => by
        rw [List.getElem?_map] at g2
        cases hq : (naf n 0).reverse[i]? with
        | none => rw [hq] at g2; cases g2
        | some z => rw [hq] at g2; cases g2; exact h3.2 i y z g1 hq⟩
  · rw [hv, toT_eq]
    exact NumV.mk (st_of h1) (terms_items h2)
theorem vac_bare_number {K : PySem.W.Frag} {vs : List V} {H : Hp} {Q : VK} {E : XK} (h : sp_bare_number K 0 vs H Q E) : False := by obtain ⟨x, R, _, ⟨n, _, h, _⟩, _⟩ := h; exact Nat.not_lt_zero _ h
end Sk
set_option Elab.async false
set_option linter.all false
set_option maxRecDepth 100000
set_option maxHeartbeats 2000000
namespace Sk
open PySem L2 Evl
theorem q_if {σ : L2.St} {H : Hp} {D : Ends} {t : TT} {tu tv tz : TS} {b : Bool} (h : EvT t σ H b) (h1 : b = true → ∀ H1, Ex H H1 → tu { D with nx := tz D } σ H1) (h2 : b = false → ∀ H1, Ex H H1 → tv { D with nx := tz D } σ H1) : tSeq (tIfS t tu tv) tz D σ H := s_if (D := { D with nx := tz D }) h h1 h2
/-- signs are signs, exponents are not below 0 (and lists not too long for the machine) -/
def T.nn : T → Prop
  | .nil => True
  | .cons s e r => ((s = 1 ∨ s = -1) ∧ 0 ≤ e.val ∧ e.toL.length < 100000 ∧ e.can) ∧ e.nn ∧ r.nn
theorem nn_toL : ∀ {t : T}, t.nn → ∀ x ∈ t.toL, ((x.1 = 1 ∨ x.1 = -1) ∧ 0 ≤ x.2.val ∧ x.2.toL.length < 100000 ∧ x.2.can) ∧ x.2.nn
  | .nil, _, x, hx => by cases hx
  | .cons s e r, h, x, hx => by
    rcases List.mem_cons.mp hx with rfl | hx
    · exact ⟨h.1, h.2.1⟩
    · exact nn_toL h.2.2 x hx
theorem toL_toT (n : Int) : (toT n).toL = (naf n 0).reverse.map fun x : Int × Nat => (x.1, toT (x.2 : Int)) := by rw [toT_eq, toL_ofL]
theorem toT_len {n : Int} {k : Nat} (h : n.natAbs ≤ 2 ^ k) : (toT n).toL.length ≤ k + 1 := by
  rw [toL_toT, List.length_map, List.length_reverse]
  exact naf_len k n 0 h
theorem intBits_bl (b : Nat) : Builtin.Int.intBits (b : Int) = bl b := by
  unfold Builtin.Int.intBits bl
  by_cases h : b = 0
  · subst h; rfl
  · rw [if_neg (by simpa using h), if_neg h]; rfl
theorem bl_le (b : Nat) : bl b ≤ b := by
  unfold bl
  split
  · omega
  · rename_i h
    have h1 := Nat.log2_self_le h
    have h2 : b.log2 < 2 ^ b.log2 := Nat.lt_two_pow_self
    omega
def optV : Option Int → V
  | none => .non
  | some q => .int q
theorem T.height_mem : ∀ {t : T} {x : Int × T}, x ∈ t.toL → x.2.height < t.height
  | .nil, x, hx => by cases hx
  | .cons s e r, x, hx => by
    rcases List.mem_cons.mp hx with rfl | hx
    · show e.height < max (e.height + 1) r.height; omega
    · have := T.height_mem hx
      show x.2.height < max (e.height + 1) r.height; omega
def pWithin (K : PySem.W.Frag) (d : Nat) : V → V → Hp → VP → Prop := fun x y H R => ∃ (t : T) (b : Nat), NumV K H x t ∧ y = .int (b : Int) ∧ t.nn ∧ t.height < d ∧ b ≤ 100000 ∧ t.toL.length < 100000 ∧ R = fun v _ => v = optV (t.within b)
def sp_value_within (K : PySem.W.Frag) (d : Nat) : Sp := spF2 (pWithin K d)
def t_value_within (K : PySem.W.Frag) (a_FIRST_NUMBERS : Addr) (d : Nat) : TS := (tSeq (tAsg (tC (.int 0)) (gName 2))
    (tSeq (tFor (iTup K (tVar 0)) (gTup K 2 (gCons (gName 3) (gCons (gName 4) gNil))) (tSeq (tIfS (tTest (tOp xGe (tVar 1) (tC (.int 8)))) (tAsg (tCall (sp_value_within K d) [] E0 (tCons (tVar 4) (tCons (tBits (tVar 1)) tNil))) (gName 5)) (tIfS (tTest (tOp (rInN K) (tVar 4) (tC (.ref a_FIRST_NUMBERS)))) (tAsg (tBM K "tuple" (rIndexN K) (tC (.ref a_FIRST_NUMBERS)) (tCons (tVar 4) tNil)) (gName 5)) (tRet (tC .non))))
    (tSeq (tIfS (tOr (tTest (tOp xIsN (tVar 5) (tC .non))) (tTest (tOp xGt (tVar 5) (tVar 1)))) (tRet (tC .non)) tNext)
    (tAug 2 (tOp xShl (tVar 3) (tVar 5)) (ipI fun i j => i + j)))))
    (tRet (tVar 2))))
/-- behind i terms the total is so far what the rest is added to -/
def WWithin (v : V) (b : Nat) (t : T) (H0 : Hp) (i : Nat) (σ : L2.St) (H : Hp) : Prop := ∃ (tot : Int) (z3 z4 z5 : Option V), σ = [some v, some (.int (b : Int)), some (.int tot), z3, z4, z5] ∧ Ex H0 H ∧
  t.within b = ((ofL (t.toL.drop i)).within b).map (tot + ·)
theorem can_within {e : T} {b : Nat} (h : e.can) (h0 : 0 ≤ e.val) (hb : e.val ≤ b) : e.within (bl b) = some e.val := by
  have h1 := within_small e.val.toNat e.val.toNat (Nat.le_refl _) b (by omega)
  have e1 : ((e.val.toNat : Nat) : Int) = e.val := by omega
  rw [e1, ← can_eq h] at h1
  exact h1
theorem firstD_lay : PyData.canLayAll0 (firstT.map T.data) = true := by
  have : ∀ l : List T, PyData.canLayAll0 (l.map T.data) = true := by
    intro l
    induction l with
    | nil => rfl
    | cons t r ih => rw [List.map_cons, PyData.canLayAll0, data_lay, ih]; rfl
  exact this _
theorem firstD_depth : PyData.depthAll (firstT.map T.data) ≤ 100 := by decide +kernel
theorem first_any {e : T} (h : e.can) (h0 : 0 ≤ e.val) : (firstT.map T.data).any (fun z => PyData.eqv z e.data) = decide (e.val < 8) := by
  rw [Bool.eq_iff_iff, List.any_eq_true, decide_eq_true_eq]
  constructor
  · rintro ⟨z, hz, he⟩
    obtain ⟨t, ht, rfl⟩ := List.mem_map.mp hz
    rw [data_eqv, decide_eq_true_eq] at he
    subst he
    rw [first_eq] at ht
    obtain ⟨i, hi, rfl⟩ := List.mem_map.mp ht
    rw [toT_val]
    have := List.mem_range.mp hi
    omega
  · intro hlt
    have hm := first_at (i := e.val.toNat) (by omega)
    have e1 : ((e.val.toNat : Nat) : Int) = e.val := by omega
    rw [e1, ← can_eq h] at hm
    exact ⟨e.data, List.mem_map.mpr ⟨e, List.mem_of_getElem? hm, rfl⟩, by rw [data_eqv]; exact decide_eq_true rfl⟩
section
variable {K : PySem.W.Frag} {σ : L2.St} {H : Hp} {te : TE} {a : Addr}
theorem ev_inFirst {e : T} {w : V} {j : Nat} (hF : FirstAt K a) (hv : σ[j]? = some (some w)) (hw : NumV K H w e) (h : e.can) (h0 : 0 ≤ e.val) : Ev (tOp (rInN K) (tVar j) (tC (.ref a))) σ H (.bl (decide (e.val < 8))) := fun H1 e1 Q q =>
  ⟨w, hv, e.data, firstT.map T.data, hw.ex e1, hF.1 H1, data_lay e, firstD_lay, firstD_depth, by rw [first_any h h0]; exact q H1 (Ex.refl H1)⟩
theorem ev_indexFirst {e : T} {w : V} {j : Nat} (hF : FirstAt K a) (hv : σ[j]? = some (some w)) (hw : NumV K H w e) (h : e.can) (h0 : 0 ≤ e.val) (h8 : e.val < 8) : Ev (tBM K "tuple" (rIndexN K) (tC (.ref a)) (tCons (tVar j) tNil)) σ H (.int e.val) := fun H1 e1 Q q => by
  have hm := first_at (i := e.val.toNat) (by omega)
  have e2 : ((e.val.toNat : Nat) : Int) = e.val := by omega
  rw [e2, ← can_eq h] at hm
  refine ⟨.inr (.inl ⟨rfl, hF.2⟩), w, hv, a, w, e.data, firstT.map T.data, e.val.toNat, e.data, rfl, rfl, hF.1 H1, hw.ex e1, firstD_lay, data_lay e, firstD_depth, by rw [List.getElem?_map, hm]; rfl, by rw [data_eqv]; exact decide_eq_true rfl, ?_, by rw [e2]; exact q H1 (Ex.refl H1)⟩
  intro m z' hmj hz
  rw [List.getElem?_map, first_at (by omega)] at hz
  cases hz
  rw [data_eqv]
  refine decide_eq_false fun q => ?_
  have := congrArg T.val q
  rw [toT_val] at this
  omega
end
theorem pure_value_within {K : PySem.W.Frag} {a_FIRST_NUMBERS : Addr} (hF : FirstAt K a_FIRST_NUMBERS) {d : Nat} {vs : List V} {H : Hp} {Q : VK} {E : XK} (h : sp_value_within K (d + 1) vs H Q E) : t_value_within K a_FIRST_NUMBERS d { nx := fun _ H' => Q .non H', rt := Q } (start ["number", "bits", "total", "sign", "exponent", "place"] vs) H := by
  obtain ⟨x, y, R, rfl, ⟨t, b, hx, rfl, hnn, hh, hb, hl, rfl⟩, k⟩ := h
  obtain ⟨a, xs, rfl, hs, ht⟩ := hx.out
  have hit := items_terms ht
  refine q_asg ev_c fun H1 e1 => ?_
  refine q_forT (xs := xs) (ev_var rfl) (ex_t e1 hs) (WWithin (.ref a) b t H) (fun H2 e2 => ⟨0, none, none, none, rfl, e1.trans e2, ?_⟩) (fun i σ' H' _ ⟨_, _, _, _, _, e, _⟩ => ex_t e hs) ?_ ?_
  · rw [List.drop_zero, ofL_toL]; cases t.within b <;> simp
  · rintro i x σ' H' hi ⟨tot, z3, z4, z5, rfl, e2, hw⟩
    obtain ⟨⟨s, e⟩, hget, p, w, rfl, hp, hwv⟩ := (hit.ex (fun a => (termI a).mono) e2).of_at hi
    have hmem : (s, e) ∈ t.toL := List.mem_of_getElem? hget
    obtain ⟨⟨hsg, hev, hel, hec⟩, hen⟩ := nn_toL hnn _ hmem
    have hdrop : t.toL.drop i = (s, e) :: t.toL.drop (i + 1) := by
      have hlt : i < t.toL.length := (List.getElem?_eq_some_iff.mp hget).1
      rw [List.drop_eq_getElem_cons hlt]
      congr 1
      exact (List.getElem?_eq_some_iff.mp hget).2
    rw [hdrop, ofL, T.within] at hw
    -- an exponent above b ends it, another one goes on
    have hA : (b : Int) < e.val → t.within b = none := fun hlt => by
      rw [hw]
      cases hq : e.within (bl b) with
      | none => rfl
      | some q =>
        have hqv := within_val _ _ _ hq
        simp only
        rw [if_pos (by rw [hqv]; exact hlt)]; rfl
    have hB : e.val ≤ (b : Int) → t.within b = ((ofL (t.toL.drop (i + 1))).within b).map ((tot + s * 2 ^ e.val.toNat) + ·) := fun hle => by
      rw [hw, can_within hec hev hle]
      simp only
      rw [if_neg (by omega)]
      cases (ofL (t.toL.drop (i + 1))).within b with
      | none => rfl
      | some z => show some (tot + (s * 2 ^ e.val.toNat + z)) = some (tot + s * 2 ^ e.val.toNat + z); rw [Int.add_assoc]
    have fin : ∀ {z5 : Option V} {D : Ends} {H4 : Hp}, Ex H' H4 → D.rt = Q → (∀ σ2 H5, Ex H4 H5 → WWithin (.ref a) b t H (i + 1) σ2 H5 → D.nx σ2 H5) → tSeq (tIfS (tOr (tTest (tOp xIsN (tVar 5) (tC .non))) (tTest (tOp xGt (tVar 5) (tVar 1)))) (tRet (tC .non)) tNext)
        (tAug 2 (tOp xShl (tVar 3) (tVar 5)) (ipI fun i j => i + j)) D [some (.ref a), some (.int (b : Int)), some (.int tot), some (.int s), some w, some (.int e.val)] H4 := by
      intro z5 D H4 e4 hrt hnx
      refine q_when (b := decide ((b : Int) < e.val)) ?_ (fun hc H5 e5 => ?_) (fun hc H5 e5 => ?_)
      · exact et_is (et_or (a := false) (b := decide ((b : Int) < e.val)) (et_test (ev_is (ev_isN (ev_var rfl)) rfl)) (fun _ => et_test (ev_gt (ev_var rfl) (ev_var rfl)))) (Bool.false_or _)
      · exact s_ret ev_c fun H6 e6 => by rw [hrt]; exact k _ _ (e2.trans (e4.trans (e5.trans e6))) (by rw [hA (of_decide_eq_true hc)]; rfl)
      · have hc' : ¬ (b : Int) < e.val := of_decide_eq_false hc
        have hcp : CPow s e.val := ⟨hev, by omega, by rcases hsg with rfl | rfl <;> decide⟩
        refine s_aug (a := tot) (b := s * 2 ^ e.val.toNat) rfl (ev_shl (ev_var rfl) (ev_var rfl) hcp) fun H6 e6 => hnx _ _ (e5.trans e6) ⟨tot + s * 2 ^ e.val.toNat, _, _, _, rfl, e2.trans (e4.trans (e5.trans e6)), hB (by omega)⟩
    refine g_pair hp ?_
    refine q_if (b := decide ((8 : Int) ≤ (b : Int))) (et_test (ev_ge (ev_var rfl) ev_c)) (fun h8 H2 e2' => ?_) (fun h8 H2 e2' => ?_)
    · refine s_asgR (R := fun v _ => v = optV (e.within (bl b))) (er_call2 (R1 := fun v H => NumV K H v e) (R2 := fun v _ => v = .int (bl b : Nat)) (er_var rfl fun H1 e1 => hwv.ex (e2'.trans e1)) numT.mono ?_ monoC ?_) fun v H3 e3 hv => ?_
      · exact er_is (by rw [← intBits_bl]; exact ev_bits (ev_var rfl))
      · rintro v w' H1 e1 h1 rfl
        exact ⟨e, bl b, h1, rfl, hen, by have h := T.height_mem hmem; have h' : e.height < t.height := h; omega, Nat.le_trans (bl_le b) hb, hel, rfl⟩
      subst hv
      cases hq : e.within (bl b) with
      | none =>
        have hgt : (b : Int) < e.val := by
          apply Int.not_le.mp
          intro hle
          rw [can_within hec hev hle] at hq
          cases hq
        dsimp only
        refine q_when (b := true) ?_ (fun _ H4 e4 => ?_) (fun h => by cases h)
        · exact et_or (a := true) (b := false) (et_test (ev_is (ev_isN (ev_var rfl)) rfl)) (fun h => by cases h)
        · exact s_ret ev_c fun H5 e5 => k _ _ (e2.trans (e2'.trans (e3.trans (e4.trans e5)))) (by rw [hA hgt]; rfl)
      | some q =>
        have hqv := within_val _ _ _ hq
        subst hqv
        exact fin (z5 := z5) (e2'.trans e3) rfl fun σ2 H5 e5 h => h
    · refine s_if (b := decide (e.val < 8)) (et_test (ev_inFirst hF rfl (hwv.ex e2') hec hev)) (fun hc H3 e3 => ?_) (fun hc H3 e3 => ?_)
      · refine s_asgR (R := fun v _ => v = .int e.val) (er_is (ev_indexFirst hF rfl (hwv.ex (e2'.trans e3)) hec hev (of_decide_eq_true hc))) fun v H4 e4 hv => ?_
        subst hv
        exact fin (z5 := z5) (e2'.trans (e3.trans e4)) rfl fun σ2 H5 e5 h => h
      · have h1 := of_decide_eq_false hc
        have h2 := of_decide_eq_false h8
        exact s_ret ev_c fun H5 e5 => k _ _ (e2.trans (e2'.trans (e3.trans e5))) (by rw [hA (by omega)]; rfl)
  · rintro σ' H' ⟨tot, z3, z4, z5, rfl, e2, hw⟩
    have : t.toL.drop xs.length = [] := List.drop_eq_nil_of_le (by rw [hit.1]; exact Nat.le_refl _)
    rw [this] at hw
    refine s_ret (ev_var rfl) fun H5 e5 => k _ _ (e2.trans e5) ?_
    rw [hw]
    show V.int tot = optV (some (tot + 0))
    rw [Int.add_zero] <;> rfl
theorem vac_value_within {K : PySem.W.Frag} {vs : List V} {H : Hp} {Q : VK} {E : XK} (h : sp_value_within K 0 vs H Q E) : False := by obtain ⟨x, y, R, _, ⟨t, b, _, _, _, h, _⟩, _⟩ := h; exact Nat.not_lt_zero _ h
end Sk
set_option Elab.async false
set_option linter.all false
set_option maxRecDepth 100000
set_option maxHeartbeats 2000000
namespace Sk
open PySem L2 Evl
theorem mem_size : ∀ {t : T} {x : Int × T}, x ∈ t.toL → x.2.size < t.size ∧ x.2.height < t.height
  | .nil, x, h => by cases h
  | .cons s e r, x, h => by
    have e1 : (T.cons s e r).height = max (e.height + 1) r.height := rfl
    have e2 : (T.cons s e r).size = e.size + r.size := rfl
    have pos : ∀ t : T, 1 ≤ t.size := fun t => by
      induction t with
      | nil => exact Nat.le_refl _
      | cons s e r h1 h2 => show 1 ≤ e.size + r.size; omega
    have p1 := pos r
    have p2 := pos e
    rcases List.mem_cons.mp h with rfl | h
    · show e.size < _ ∧ e.height < _; omega
    · have := mem_size h; omega
theorem len_size (t : T) : t.toL.length < t.size := by
  induction t with
  | nil => exact Nat.lt_succ_self _
  | cons s e r h1 h2 =>
    show r.toL.length + 1 < e.size + r.size
    omega
theorem can_mem : ∀ {t : T}, t.can → ∀ x ∈ t.toL, x.2.can
  | .nil, _, x, hx => by cases hx
  | .cons s e r, h, x, hx => by
    rcases List.mem_cons.mp hx with rfl | hx
    · exact h.2.1
    · exact can_mem h.2.2 x hx
theorem can_sign : ∀ {t : T}, t.can → ∀ x ∈ t.toL, (x.1 = 1 ∨ x.1 = -1) ∧ 0 ≤ x.2.val
  | .nil, _, x, hx => by cases hx
  | .cons s e r, h, x, hx => by
    rcases List.mem_cons.mp hx with rfl | hx
    · exact ⟨h.1.1, h.1.2.1⟩
    · exact can_sign h.2.2 x hx
theorem can_lead : ∀ {t : T}, t.can → ∀ x ∈ t.toL, x.2.val ≤ t.lead
  | .nil, _, x, hx => by cases hx
  | .cons s e r, h, x, hx => by
    rcases List.mem_cons.mp hx with rfl | hx
    · exact Int.le_refl _
    · have := can_lead h.2.2 x hx
      have h2 := h.1.2.2
      show x.2.val ≤ e.val
      omega
theorem can_gap : ∀ {t : T}, t.can → t.toL.Pairwise (fun x y => y.2.val + 2 ≤ x.2.val)
  | .nil, _ => List.Pairwise.nil
  | .cons s e r, h => List.pairwise_cons.mpr ⟨fun x hx => by
      have := can_lead h.2.2 x hx
      have h2 := h.1.2.2
      show x.2.val + 2 ≤ e.val
      omega, can_gap h.2.2⟩
theorem nn_of_can : ∀ {t : T}, t.can → t.size < 100000 → t.nn
  | .nil, _, _ => True.intro
  | .cons s e r, h, hz => by
    have e2 : (T.cons s e r).size = e.size + r.size := rfl
    have h1 := len_size e
    have h2 := len_size r
    exact ⟨⟨h.1.1, h.1.2.1, by omega, h.2.1⟩, nn_of_can h.2.1 (by omega), nn_of_can h.2.2 (by omega)⟩
theorem val_app : ∀ l l' : List (Int × T), (ofL (l ++ l')).val = (ofL l).val + (ofL l').val
  | [], l' => by show _ = 0 + _; rw [Int.zero_add]; rfl
  | (s, e) :: l, l' => by
    show s * 2 ^ e.val.toNat + (ofL (l ++ l')).val = s * 2 ^ e.val.toNat + (ofL l).val + (ofL l').val
    rw [val_app l l']
    omega
theorem take_step {t : T} {keep : Nat} {s : Int} {e : T} (h : t.toL[keep]? = some (s, e)) : (ofL (t.toL.take (keep + 1))).val = (ofL (t.toL.take keep)).val + s * 2 ^ e.val.toNat := by
  obtain ⟨h1, h2⟩ := List.getElem?_eq_some_iff.mp h
  rw [List.take_succ_eq_append_getElem h1, val_app, h2]
  show _ + (s * 2 ^ e.val.toNat + 0) = _
  rw [Int.add_zero]
theorem can_drop {t : T} (h : t.can) (j : Nat) : (ofL (t.toL.drop j)).can :=
  can_ofL (fun x hx => ⟨(can_sign h x (List.mem_of_mem_drop hx)).1, (can_sign h x (List.mem_of_mem_drop hx)).2, can_mem h x (List.mem_of_mem_drop hx)⟩) ((can_gap h).sublist (List.drop_sublist _ _))
theorem val_cut (t : T) (j : Nat) : t.val = (ofL (t.toL.take j)).val + (ofL (t.toL.drop j)).val := by
  rw [← val_app, List.take_append_drop, ofL_toL]
theorem toL_inj {t u : T} (h : t.toL = u.toL) : t = u := by rw [← ofL_toL t, h, ofL_toL]
/-- -1, 0, 1: less, the same, greater -/
def cmpI (a b : Int) : Int := if a < b then -1 else if a = b then 0 else 1
theorem cmp_add (a x y : Int) : cmpI (a + x) (a + y) = cmpI x y := by
  unfold cmpI
  by_cases h : x < y
  · rw [if_pos h, if_pos (by omega)]
  · rw [if_neg h, if_neg (by omega)]
    by_cases h2 : x = y
    · rw [if_pos h2, if_pos (by omega)]
    · rw [if_neg h2, if_neg (by omega)]
theorem cmp_lt {x y : Int} (h : x < y) : cmpI x y = -1 := by unfold cmpI; rw [if_pos h]
theorem cmp_gt {x y : Int} (h : y < x) : cmpI x y = 1 := by unfold cmpI; rw [if_neg (by omega), if_neg (by omega)]
theorem cmp_self (x : Int) : cmpI x x = 0 := by unfold cmpI; rw [if_neg (Int.lt_irrefl _), if_pos rfl]
/-- the first terms that differ decide -/
theorem ord_diff {t u : T} {j : Nat} {s s' : Int} {e e' : T} (ht : t.can) (hu : u.can) (h : t.toL.take j = u.toL.take j) (h1 : t.toL[j]? = some (s, e)) (h2 : u.toL[j]? = some (s', e')) (hne : (s, e) ≠ (s', e')) :
    (s ≠ s' → cmpI t.val u.val = s) ∧ (s = s' → e ≠ e' ∧ cmpI t.val u.val = s * cmpI e.val e'.val) := by
  have d1 : t.toL.drop j = (s, e) :: t.toL.drop (j + 1) := by
    obtain ⟨g1, g2⟩ := List.getElem?_eq_some_iff.mp h1
    rw [List.drop_eq_getElem_cons g1, g2]
  have d2 : u.toL.drop j = (s', e') :: u.toL.drop (j + 1) := by
    obtain ⟨g1, g2⟩ := List.getElem?_eq_some_iff.mp h2
    rw [List.drop_eq_getElem_cons g1, g2]
  have c1 := can_drop ht j
  have c2 := can_drop hu j
  rw [d1] at c1
  rw [d2] at c2
  rw [val_cut t j, val_cut u j, h, cmp_add, d1, d2]
  generalize t.toL.drop (j + 1) = r at *
  generalize u.toL.drop (j + 1) = r' at *
  have p1 := can_pos c1
  have p2 := can_pos c2
  have k1 : s = 1 ∨ s = -1 := c1.1.1
  have k2 : s' = 1 ∨ s' = -1 := c2.1.1
  refine ⟨fun hs => ?_, fun hs => ?_⟩
  · show cmpI (T.cons s e (ofL r)).val (T.cons s' e' (ofL r')).val = s
    generalize (T.cons s e (ofL r)).val = x at *
    generalize (T.cons s' e' (ofL r')).val = y at *
    rcases k1 with rfl | rfl <;> rcases k2 with rfl | rfl
    · exact absurd rfl hs
    · exact cmp_gt (by omega)
    · exact cmp_lt (by omega)
    · exact absurd rfl hs
  · subst hs
    have hee : e ≠ e' := fun q => hne (by rw [q])
    refine ⟨hee, ?_⟩
    have hev : e.val ≠ e'.val := fun q => hee (can_uniq c1.2.1 c2.2.1 q)
    show cmpI (T.cons s e (ofL r)).val (T.cons s e' (ofL r')).val = _
    rcases Int.lt_or_gt_of_ne hev with q | q
    · have := (lead_lt c1 c2 q).1
      rw [cmp_lt q]
      generalize (T.cons s e (ofL r)).val = x at *
      generalize (T.cons s e' (ofL r')).val = y at *
      rcases k1 with rfl | rfl
      · rw [cmp_lt (by omega)]; rfl
      · rw [cmp_gt (by omega)]; rfl
    · have := (lead_lt c2 c1 q).1
      rw [cmp_gt q]
      generalize (T.cons s e (ofL r)).val = x at *
      generalize (T.cons s e' (ofL r')).val = y at *
      rcases k1 with rfl | rfl
      · rw [cmp_gt (by omega)]; rfl
      · rw [cmp_lt (by omega)]; rfl
/-- none differs as far as both go: the one that goes on decides -/
theorem ord_end {t u : T} {j : Nat} (ht : t.can) (hu : u.can) (h : t.toL.take j = u.toL.take j) (hne : t ≠ u) (hj : j = min t.toL.length u.toL.length) :
    (∃ s e r, t.toL.drop u.toL.length = (s, e) :: r ∧ u.toL.drop t.toL.length = [] ∧ cmpI t.val u.val = s) ∨ (∃ s e r, u.toL.drop t.toL.length = (s, e) :: r ∧ t.toL.drop u.toL.length = [] ∧ cmpI t.val u.val = -s) := by
  rcases Nat.lt_trichotomy t.toL.length u.toL.length with q | q | q
  · have ej : j = t.toL.length := by omega
    refine .inr ?_
    have hd : t.toL.drop j = [] := List.drop_eq_nil_of_le (by omega)
    have c2 := can_drop hu t.toL.length
    rw [val_cut t j, val_cut u j, h, cmp_add, hd, ← ej] at *
    cases hq : u.toL.drop j with
    | nil => have := congrArg List.length hq; rw [List.length_drop] at this; simp at this; omega
    | cons x r =>
      obtain ⟨s, e⟩ := x
      rw [hq] at c2
      refine ⟨s, e, r, rfl, List.drop_eq_nil_of_le (by omega), ?_⟩
      have p := can_pos c2
      show cmpI 0 (T.cons s e (ofL r)).val = -s
      generalize (T.cons s e (ofL r)).val = x at *
      rcases (show s = 1 ∨ s = -1 from c2.1.1) with rfl | rfl
      · exact cmp_lt (by omega)
      · exact cmp_gt (by omega)
  · exfalso
    apply hne
    apply toL_inj
    have e1 : t.toL.take j = t.toL := List.take_of_length_le (by omega)
    have e2 : u.toL.take j = u.toL := List.take_of_length_le (by omega)
    rw [← e1, h, e2]
  · have ej : j = u.toL.length := by omega
    refine .inl ?_
    have hd : u.toL.drop j = [] := List.drop_eq_nil_of_le (by omega)
    have c1 := can_drop ht u.toL.length
    rw [val_cut t j, val_cut u j, h, cmp_add, hd, ← ej] at *
    cases hq : t.toL.drop j with
    | nil => have := congrArg List.length hq; rw [List.length_drop] at this; simp at this; omega
    | cons x r =>
      obtain ⟨s, e⟩ := x
      rw [hq] at c1
      refine ⟨s, e, r, rfl, List.drop_eq_nil_of_le (by omega), ?_⟩
      have p := can_pos c1
      show cmpI (T.cons s e (ofL r)).val 0 = s
      generalize (T.cons s e (ofL r)).val = x at *
      rcases (show s = 1 ∨ s = -1 from c1.1.1) with rfl | rfl
      · exact cmp_gt (by omega)
      · exact cmp_lt (by omega)
end Sk
set_option Elab.async false
set_option linter.all false
set_option maxRecDepth 100000
set_option maxHeartbeats 2000000
namespace Sk
open PySem L2 Evl
def nextRow (row : List T) : List T := (row.map fun t => t.toL.map (·.2)).flatten
def levF : Nat → List T → List (List T)
  | 0, _ => []
  | k + 1, row => if row = [] then [] else row :: levF k (nextRow row)
def hrow (row : List T) : Nat := row.foldr (fun t m => max (t.height + 1) m) 0
def srow (row : List T) : Nat := (row.map T.size).sum
theorem height_le_of : ∀ {t : T} {k : Nat}, (∀ x ∈ t.toL, x.2.height + 1 ≤ k) → t.height ≤ k
  | .nil, _, _ => Nat.zero_le _
  | .cons s e r, k, h => by
    have h1 := h (s, e) List.mem_cons_self
    have h2 := height_le_of (t := r) fun x hx => h x (List.mem_cons_of_mem _ hx)
    show max (e.height + 1) r.height ≤ k
    have h1' : e.height + 1 ≤ k := h1
    omega
theorem hrow_le : ∀ {row : List T} {k : Nat}, hrow row ≤ k ↔ ∀ t ∈ row, t.height + 1 ≤ k
  | [], k => by simp [hrow]
  | t :: r, k => by
    have ih := hrow_le (row := r) (k := k)
    show max (t.height + 1) (hrow r) ≤ k ↔ _
    constructor
    · intro h x hx
      rcases List.mem_cons.mp hx with rfl | hx
      · omega
      · exact ih.mp (by omega) x hx
    · intro h
      have h1 := h t List.mem_cons_self
      have h2 := ih.mpr fun x hx => h x (List.mem_cons_of_mem _ hx)
      omega
theorem mem_next {row : List T} {e : T} : e ∈ nextRow row ↔ ∃ t ∈ row, ∃ x ∈ t.toL, x.2 = e := by
  unfold nextRow
  rw [List.mem_flatten]
  constructor
  · rintro ⟨l, hl, he⟩
    obtain ⟨t, ht, rfl⟩ := List.mem_map.mp hl
    obtain ⟨x, hx, rfl⟩ := List.mem_map.mp he
    exact ⟨t, ht, x, hx, rfl⟩
  · rintro ⟨t, ht, x, hx, rfl⟩
    exact ⟨_, List.mem_map.mpr ⟨t, ht, rfl⟩, List.mem_map.mpr ⟨x, hx, rfl⟩⟩
theorem hrow_next {row : List T} {k : Nat} : hrow row ≤ k + 1 ↔ hrow (nextRow row) ≤ k := by
  rw [hrow_le, hrow_le]
  constructor
  · intro h e he
    obtain ⟨t, ht, x, hx, rfl⟩ := mem_next.mp he
    have := h t ht
    have := T.height_mem hx
    omega
  · intro h t ht
    have : t.height ≤ k := height_le_of fun x hx => h x.2 (mem_next.mpr ⟨t, ht, x, hx, rfl⟩)
    omega
theorem levF_len : ∀ {k : Nat} {row : List T}, hrow row ≤ k → (levF k row).length = hrow row
  | 0, row, h => by show 0 = _; omega
  | k + 1, row, h => by
    by_cases hr : row = []
    · subst hr; rfl
    · unfold levF
      rw [if_neg hr, List.length_cons, levF_len (hrow_next.mp h)]
      have h1 : 1 ≤ hrow row := by
        cases row with
        | nil => exact absurd rfl hr
        | cons t r => show 1 ≤ max (t.height + 1) _; omega
      have h2 := hrow_next (row := row) (k := hrow (nextRow row)) |>.mpr (Nat.le_refl _)
      have h3 := hrow_next (row := row) (k := hrow row - 1) |>.mp (by omega)
      omega
theorem size_toL : ∀ t : T, t.size = 1 + (t.toL.map fun x => x.2.size).sum
  | .nil => rfl
  | .cons s e r => by
    show e.size + r.size = 1 + ((s, e).2.size :: r.toL.map fun x => x.2.size).sum
    rw [List.sum_cons, size_toL r]
    show e.size + _ = 1 + (e.size + _)
    omega
theorem srow_next : ∀ row : List T, srow row = row.length + srow (nextRow row)
  | [] => rfl
  | t :: r => by
    have ih := srow_next r
    show (t.size :: r.map T.size).sum = (r.length + 1) + srow (nextRow (t :: r))
    have e : srow (nextRow (t :: r)) = (t.toL.map fun x => x.2.size).sum + srow (nextRow r) := by
      show (List.map T.size (t.toL.map (·.2) ++ nextRow r)).sum = _
      rw [List.map_append, List.sum_append, List.map_map] <;> rfl
    rw [List.sum_cons, e, size_toL t]
    have : (r.map T.size).sum = srow r := rfl
    omega
theorem levF_sum : ∀ {k : Nat} {row : List T}, hrow row ≤ k → ((levF k row).map List.length).sum = srow row
  | 0, row, h => by
    have : row = [] := by
      cases row with
      | nil => rfl
      | cons t r => have : max (t.height + 1) (hrow r) ≤ 0 := h; omega
    subst this; rfl
  | k + 1, row, h => by
    by_cases hr : row = []
    · subst hr; rfl
    · unfold levF
      rw [if_neg hr, List.map_cons, List.sum_cons, levF_sum (hrow_next.mp h), ← srow_next]
theorem hrow_one (t : T) : hrow [t] = t.height + 1 := by show max (t.height + 1) 0 = _; omega
theorem srow_one (t : T) : srow [t] = t.size := by show (t.size + 0 : Nat) = t.size; omega
theorem sz_ltB {n : Nat} (h : n < 16000000) : n < sizeLine := Nat.lt_trans h (by decide)
/-- a number that stands for t -/
def NumI (K : PySem.W.Frag) (t : T) : VP := fun v H => NumV K H v t
theorem numI {K : PySem.W.Frag} (t : T) : MonoT (NumI K t) := numT
section
variable {K : PySem.W.Frag} {H : Hp} {x0 x1 x2 x3 x4 x5 : Option V}
theorem take_snoc {α : Type} {l : List α} {i : Nat} {a : α} (h : l[i]? = some a) : l.take (i + 1) = l.take i ++ [a] := by
  have hlt : i < l.length := (List.getElem?_eq_some_iff.mp h).1
  rw [List.take_succ, h] <;> rfl
/-- [exponent for item in row for _, exponent in item] -/
theorem er_next {row : List T} {a : Addr} {xs : List V} (hv : x2 = some (.ref a)) (hs : SqL K H a xs) (hit : ItemsR (NumI K) row xs H) (hz : (nextRow row).length < 16000000) :
    ER (tLc2 (iList K (tVar 2)) (gName 3) tYes (iTup K (tVar 3)) (gTup K 2 (gCons (gName 4) (gCons (gName 5) gNil))) tYes (tVar 5) [3, 4, 5] [4, 5]) [x0, x1, x2, x3, x4, x5] H
      (fun v H2 => ∃ p ys, v = .ref p ∧ H p = none ∧ H2 p = some (.lst ys) ∧ ItemsR (NumI K) (nextRow row) ys H2) := by
  intro H1 e1 Q q
  subst hv
  refine ⟨_, rfl, a, rfl, ⟨xs, ex_l e1 hs⟩, fun D hD => ?_⟩
  -- behind i numbers: the exponents of the first i
  let Pv : List T → Hp → Prop := fun done H' => H1 D = none ∧ Ex H1 H' ∧ ∃ ys, H' D = some (.lst ys) ∧ ItemsR (NumI K) done ys H'
  refine ⟨fun i m H' => m = xs.length - i ∧ i ≤ xs.length ∧ Pv (nextRow (row.take i)) H', ⟨xs.length, rfl, Nat.zero_le _, hD, Ex.new hD, [], upd_same, .nil⟩, ?_⟩
  rintro i m H' ⟨rfl, hi, p⟩
  obtain ⟨_, e2, ys, hy, hys⟩ := _root_.id p
  have hsq : SqL K H' a xs := ex_l (e1.trans e2) hs
  by_cases hlt : i < xs.length
  · refine .inr ⟨⟨xs, xs[i], hsq, by simp [hlt]⟩, Pv (nextRow (row.take (i + 1))), fun H'' p' => ⟨xs.length - (i + 1), by omega, rfl, hlt, p'⟩, fun x H'' y => ?_⟩
    obtain ⟨rfl, y⟩ := y
    have hx := y xs hsq
    obtain ⟨t, ht, hn⟩ := hit.of_at hx
    obtain ⟨b, zs, rfl, hb, htm⟩ := NumV.out hn
    have hzs := items_terms htm
    have hnx : nextRow (row.take (i + 1)) = nextRow (row.take i) ++ t.toL.map (·.2) := by
      rw [take_snoc ht]
      unfold nextRow
      rw [List.map_append, List.flatten_append] <;> simp
    refine ⟨rfl, ?_⟩
    refine ⟨_, rfl, b, rfl, ⟨zs, ex_t (e1.trans e2) hb⟩, ?_⟩
    refine ⟨fun j k H3 => k = zs.length - j ∧ j ≤ zs.length ∧ Pv (nextRow (row.take i) ++ (t.toL.take j).map (·.2)) H3, ⟨zs.length, rfl, Nat.zero_le _, by simpa using p⟩, ?_⟩
    rintro j k H3 ⟨rfl, hj, p3⟩
    obtain ⟨_, e3, us, hu, hus⟩ := _root_.id p3
    have hb3 : SqT K H3 b zs := ex_t (e1.trans e3) hb
    by_cases hjt : j < zs.length
    · refine .inr ⟨⟨zs, zs[j], hb3, by simp [hjt]⟩, Pv (nextRow (row.take i) ++ (t.toL.take (j + 1)).map (·.2)), fun H4 p' => ⟨zs.length - (j + 1), by omega, rfl, hjt, p'⟩, fun z H4 yz => ?_⟩
      obtain ⟨rfl, yz⟩ := yz
      obtain ⟨⟨s, e⟩, hse, q0, w, rfl, hq0, hw⟩ := hzs.of_at (yz zs hb3)
      refine g_pair (ex_t (e1.trans e3) hq0) ⟨rfl, ?_⟩
      unfold tYes
      refine iteT ?_
      refine ⟨w, rfl, us, hu, ?_, hD, Ex.mut e3 hD, us ++ [w], upd_same, ?_⟩
      · have hle : (nextRow (row.take i) ++ (t.toL.take j).map (·.2)).length ≤ (nextRow row).length := by
          have h1 : nextRow row = nextRow (row.take (i + 1)) ++ nextRow (row.drop (i + 1)) := by
            unfold nextRow
            rw [← List.flatten_append, ← List.map_append, List.take_append_drop]
          rw [h1, hnx, List.length_append, List.length_append, List.length_append, List.length_map, List.length_map, List.length_take]
          omega
        exact sz_ltB (by rw [hus.1]; omega)
      · rw [take_snoc hse, List.map_append, ← List.append_assoc]
        have t4 : TEx H4 (upd H4 D (.lst (us ++ [w]))) := TEx.put hu
        exact (hus.tex numI t4).snoc (((NumV.ex hw (e1.trans e3)).tex t4 : NumV K _ w e))
    · have hj' : j = zs.length := by omega
      subst hj'
      refine .inl ⟨⟨zs, hb3, Nat.le_refl _⟩, ?_⟩
      show Pv _ H3
      rw [hnx]
      have : t.toL.take zs.length = t.toL := by rw [hzs.1]; exact List.take_length
      rw [this] at p3
      exact p3
  · have hi' : i = xs.length := by omega
    subst hi'
    have : row.take xs.length = row := by rw [hit.1]; exact List.take_length
    rw [this] at hys
    exact .inl ⟨⟨xs, hsq, Nat.le_refl _⟩, q _ H' e2 ⟨D, ys, rfl, fresh_back e1 hD, hy, hys⟩⟩
end
/-- a row: a list of numbers that stand for row, at another address than l -/
def RowI (K : PySem.W.Frag) (row : List T) : VP := fun v H => ∃ q zs, v = .ref q ∧ H q = some (.lst zs) ∧ ItemsR (NumI K) row zs H
/-- small enough for the machine's lists -/
def T.szk (t : T) : Prop := t.size < 16000000 ∧ t.height < 99999
def pLevels (K : PySem.W.Frag) : V → Hp → VP → Prop := fun x H R => ∃ t : T, NumV K H x t ∧ t.szk ∧ R = ListR (RowI K) (levF (t.height + 1) [t])
def sp_levels (K : PySem.W.Frag) : Sp := spF1 (pLevels K)
def t_levels (K : PySem.W.Frag) : TS := (tSeq (tAsg (tLst tNil) (gName 1))
    (tSeq (tAsg (tLst (tCons (tVar 0) tNil)) (gName 2))
    (tSeq (tWhile (tTruK K (tVar 2)) (tSeq (tDrop (tBM K "list" rAppend (tVar 1) (tCons (tVar 2) tNil)))
    (tAsg (tLc2 (iList K (tVar 2)) (gName 3) tYes (iTup K (tVar 3)) (gTup K 2 (gCons (gName 4) (gCons (gName 5) gNil))) tYes (tVar 5) [3, 4, 5] [4, 5]) (gName 2))))
    (tRet (tVar 1)))))
/-- the rows so far at l, the next row -/
def WLevels (K : PySem.W.Frag) (v : V) (t : T) (l : Addr) (H0 : Hp) (m : Nat) (σ : L2.St) (H : Hp) : Prop := ∃ (q : Addr) (z3 z4 z5 : Option V) (row : List T) (zs ys : List V) (acc : List (List T)),
  σ = [some v, some (.ref l), some (.ref q), z3, z4, z5] ∧ H0 l = none ∧ Ex H0 H ∧ q ≠ l ∧ H q = some (.lst zs) ∧ ItemsR (NumI K) row zs H ∧ H l = some (.lst ys) ∧ ItemsR (fun r v H => RowI K r v H ∧ v ≠ .ref l) acc ys H ∧
  acc ++ levF m row = levF (t.height + 1) [t] ∧ hrow row ≤ m ∧ srow row < 16000000 ∧ acc.length + m ≤ t.height + 1
theorem height_le_size : ∀ t : T, t.height + 1 ≤ t.size
  | .nil => Nat.le_refl _
  | .cons s e r => by
    have h1 := height_le_size e
    have h2 := height_le_size r
    show max (e.height + 1) r.height + 1 ≤ e.size + r.size
    omega
theorem szk_of {t : T} (h : t.size < 100000) : t.szk := ⟨by omega, by have := height_le_size t; omega⟩
theorem size_pos (t : T) : 1 ≤ t.size := Nat.le_trans (Nat.le_add_left 1 _) (height_le_size t)
theorem len_le_srow : ∀ row : List T, row.length ≤ srow row
  | [] => Nat.le_refl _
  | t :: r => by
    have := len_le_srow r
    have := size_pos t
    show r.length + 1 ≤ (t.size + (r.map T.size).sum : Nat)
    have : (r.map T.size).sum = srow r := rfl
    omega
theorem pure_levels {K : PySem.W.Frag} {vs : List V} {H : Hp} {Q : VK} {E : XK} (h : sp_levels K vs H Q E) : t_levels K { nx := fun _ H' => Q .non H', rt := Q } (start ["number", "rows", "row", "item", "_", "exponent"] vs) H := by
  obtain ⟨x, R, rfl, ⟨t, hx, hsz, rfl⟩, k⟩ := h
  have hhs := hsz.2
  refine q_asgL (el_lst ea_nil (by decide)) fun l H1 hl e1 h1 => ?_
  refine q_asgL (el_lst (ea_cons (ev_var rfl) ea_nil) (by show 1 ≤ 100000; omega)) fun q H2 hq e2 h2 => ?_
  have hql : q ≠ l := fun e => by rw [e, h1] at hq; cases hq
  refine q_while' (WLevels K x t l H) (t.height + 1) ⟨q, none, none, none, [t], [x], [], [], rfl, hl, e1.trans e2, hql, h2, ?_, e2 l _ h1, .nil, rfl, by rw [hrow_one]; exact Nat.le_refl _, by rw [srow_one]; exact hsz.1, by simp⟩ ?_
  · exact ItemsR.snoc (l := []) (ys := []) .nil (NumV.ex hx (e1.trans e2))
  rintro m σ' H' ⟨q, z3, z4, z5, row, zs, ys, acc, rfl, hl0, e3, hql, h3, h4, h5, h6, h7, h8, h9, h10⟩
  refine ⟨!zs.isEmpty, et_truL (ev_var rfl) (sq_of h3), fun hb H4 e4 => ?_, fun hb H4 e4 => ?_⟩
  · have hrow : row ≠ [] := fun e => by
      subst e
      have : zs = [] := List.length_eq_zero_iff.mp h4.1
      subst this; cases hb
    have hm : ∃ m', m = m' + 1 := by
      cases m with
      | zero =>
        cases row with
        | nil => exact absurd rfl hrow
        | cons t r => have : max (t.height + 1) (Sk.hrow r) ≤ 0 := h8; omega
      | succ m' => exact ⟨m', rfl⟩
    obtain ⟨m', rfl⟩ := hm
    have hys : ys.length < 100000 := by rw [h6.1]; omega
    refine q_app (e4 l _ h5) (ev_var rfl) (ev_var rfl) hys fun H5 e5 => ?_
    have e45 : Ex H' H5 := e4.trans e5
    have hq6 : (upd H5 l (.lst (ys ++ [V.ref q]))) q = some (.lst zs) := by rw [upd_ne hql]; exact e45 q _ h3
    have t6 : TEx H' (upd H5 l (.lst (ys ++ [V.ref q]))) := (Ex.t e45).trans (TEx.put (e45 l _ h5))
    have hnx : srow (nextRow row) < 16000000 := by have := srow_next row; omega
    refine s_asgR (er_next rfl (sq_of hq6) (h4.tex numI t6) (by have := len_le_srow (nextRow row); omega)) fun v H7 e7 ⟨p, us, hv, hp, hp7, hus⟩ => ?_
    subst hv
    have hpl : p ≠ l := fun e => by rw [e, upd_same] at hp; cases hp
    refine ⟨m', Nat.lt_succ_self _, p, _, _, _, nextRow row, us, ys ++ [V.ref q], acc ++ [row], rfl, hl0, ?_, hpl, hp7, hus, e7 l _ upd_same, ?_, ?_, hrow_next.mp h8, hnx, by rw [List.length_append]; show acc.length + 1 + m' ≤ _; omega⟩
    · exact (Ex.mut (e3.trans e45) hl0).trans e7
    · refine ItemsR.ex (R := fun r v H => RowI K r v H ∧ v ≠ .ref l) (fun r v Ha Hb e ⟨⟨q, zs, g1, g2, g3⟩, g4⟩ => ⟨⟨q, zs, g1, e q _ g2, g3.ex (fun a => (numI a).mono) e⟩, g4⟩) ?_ e7
      refine ItemsR.snoc ⟨h6.1, fun i y a g1 g2 => ?_⟩ ⟨⟨q, zs, rfl, hq6, h4.tex numI t6⟩, fun e => hql (V.ref.inj e)⟩
      obtain ⟨⟨q2, zs2, k1, k2, k3⟩, k4⟩ := h6.2 i y a g1 g2
      refine ⟨⟨q2, zs2, k1, ?_, k3.tex numI t6⟩, k4⟩
      rw [upd_ne (fun e => k4 (by rw [k1, e]))]
      exact e45 q2 _ k2
    · rw [← h7, List.append_assoc, show levF (m' + 1) row = row :: levF m' (nextRow row) from by rw [levF, if_neg hrow]]
      rfl
  · have hz : zs = [] := by
      cases zs with
      | nil => rfl
      | cons a b => cases hb
    subst hz
    have hr : row = [] := List.length_eq_zero_iff.mp (by rw [← h4.1]; rfl)
    subst hr
    have hlev : levF m ([] : List T) = [] := by cases m <;> rfl
    rw [hlev, List.append_nil] at h7
    subst h7
    refine s_ret (ev_var rfl) fun H5 e5 => k _ _ ((e3.trans e4).trans e5) ⟨l, ys, rfl, (e4.trans e5) l _ h5, ?_⟩
    exact (ItemsR.imp h6 fun a y _ h => h.1).ex (fun r v Ha Hb e ⟨q, zs, g1, g2, g3⟩ => ⟨q, zs, g1, e q _ g2, g3.ex (fun a => (numI a).mono) e⟩) (e4.trans e5)
end Sk
set_option Elab.async false
set_option linter.all false
set_option maxRecDepth 100000
set_option maxHeartbeats 2000000
namespace Sk
open PySem L2 Evl
section
variable {K : PySem.W.Frag} {σ : L2.St} {H : Hp} {te : TE}
/-- sum of a list that was just made -/
theorem ev_sum {l : List Int} (h : ER te σ H (fun v H2 => ∃ p ys, v = .ref p ∧ SqL K H2 p ys ∧ ItemsR IntI l ys H2)) : Ev (tCB (rSum K) (tCons te tNil)) σ H (.int l.sum) := fun H1 e Q q =>
  h H1 e _ fun v H2 e2 ⟨p, ys, hv, h1, h2⟩ => ⟨p, l, by rw [hv], by rw [← h2.ints]; exact h1, q H2 e2⟩
end
theorem rowI {K : PySem.W.Frag} (r : List T) : Mono (RowI K r) := fun v Ha Hb e ⟨q, zs, g1, g2, g3⟩ => ⟨q, zs, g1, e q _ g2, g3.ex (fun a => (numI a).mono) e⟩
theorem intI (n : Int) : MonoT (IntI n) := fun _ _ _ _ h => h
theorem er_levels {K : PySem.W.Frag} {σ : L2.St} {H : Hp} {x : V} {t : T} {i : Nat} (hv : σ[i]? = some (some x)) (hx : NumV K H x t) (hsz : t.szk) : ER (tCall (sp_levels K) [] E0 (tCons (tVar i) tNil)) σ H (ListR (RowI K) (levF (t.height + 1) [t])) :=
  er_call1 (R1 := fun v H => NumV K H v t) (er_var hv fun H1 e1 => hx.ex e1) numT.mono fun v H1 e1 hv => ⟨t, hv, hsz, rfl⟩
def pIsAllowed (K : PySem.W.Frag) : V → Hp → VP → Prop := fun x H R => ∃ t : T, NumV K H x t ∧ t.szk ∧ R = fun v _ => v = .bl (decide t.fits)
def sp_is_allowed (K : PySem.W.Frag) : Sp := spF1 (pIsAllowed K)
def t_is_allowed (K : PySem.W.Frag) : TS := (tSeq (tAsg (tCall (sp_levels K) [] E0 (tCons (tVar 0) tNil)) (gName 1))
    (tRet (tAndV (tOp xLe (tCB (rSum K) (tCons (tLc (iList K (tVar 1)) (gName 2) tYes (tCB (rLenS K) (tCons (tVar 2) tNil)) [2]) tNil)) (tC (.int 300))) (tOp xLe (tCB (rLenS K) (tCons (tVar 1) tNil)) (tOp xAdd (tC (.int 40)) (tC (.int 1)))))))
theorem lens_cast (l : List (List T)) : (l.map fun r => (r.length : Int)).sum = ((l.map List.length).sum : Nat) := by
  induction l with
  | nil => rfl
  | cons a r ih => rw [List.map_cons, List.map_cons, List.sum_cons, List.sum_cons, ih]; omega
theorem pure_is_allowed {K : PySem.W.Frag} {vs : List V} {H : Hp} {Q : VK} {E : XK} (h : sp_is_allowed K vs H Q E) : t_is_allowed K { nx := fun _ H' => Q .non H', rt := Q } (start ["number", "rows", "row"] vs) H := by
  obtain ⟨x, R, rfl, ⟨t, hx, hsz, rfl⟩, k⟩ := h
  have hlen := levF_len (k := t.height + 1) (row := [t]) (by rw [hrow_one]; exact Nat.le_refl _)
  have hsum := levF_sum (k := t.height + 1) (row := [t]) (by rw [hrow_one]; exact Nat.le_refl _)
  rw [hrow_one] at hlen
  rw [srow_one] at hsum
  have hhs := hsz.2
  refine q_asgR (er_levels rfl hx hsz) fun v H1 e1 ⟨p, ys, hv, h2, h3⟩ => ?_
  subst hv
  refine s_ret (ev_andV (a := decide ((t.size : Int) ≤ 300)) (b := decide (((t.height + 1 : Nat) : Int) ≤ 40 + 1)) (ev_le (ev_is (ev_sum (l := (levF (t.height + 1) [t]).map fun r => (r.length : Int)) ?_) (by rw [lens_cast, hsum])) ev_c) fun _ => ev_le (ev_is (ev_lenL (ev_var rfl) (sq_of h2)) (by rw [h3.1, hlen])) (ev_add ev_c ev_c)) fun H2 e2 => k _ _ (e1.trans e2) ?_
  · refine (er_lcI (R1 := RowI K) (R2 := fun r => IntI (r.length : Int)) (l := levF (t.height + 1) [t]) (er_ev (ev_var rfl) fun H2 e2 => ⟨p, ys, rfl, sq_of (e2 p _ h2), h3.ex rowI e2⟩) rowI (fun a => intI _) (by omega) ?_).imp fun v H1 e ⟨p, ys, h1, h2, h3, h4⟩ => ⟨p, ys, h1, sq_of h3, ⟨by rw [List.length_map]; exact h4.1, fun i y a g1 g2 => ?_⟩⟩
    · rintro i r x H1 hi ⟨q, zs, rfl, hq, hz⟩ e1 Qk kk
      refine ⟨rfl, ?_⟩
      refine ev_len (xs := zs) (ev_var rfl) (sq_of hq) H1 (Ex.refl _) _ fun H2 e2 => kk _ _ e2 ?_
      show V.int _ = V.int _
      rw [hz.1]
    · rw [List.getElem?_map] at g2
      cases hq : (levF (t.height + 1) [t])[i]? with
      | none => rw [hq] at g2; cases g2
      | some z => rw [hq] at g2; cases g2; exact h4.2 i y z g1 hq
  · show V.bl _ = V.bl _
    congr 1
    rw [Bool.eq_iff_iff, Bool.and_eq_true, decide_eq_true_eq, decide_eq_true_eq, decide_eq_true_eq]
    unfold T.fits
    omega
def pAllowed (K : PySem.W.Frag) (CL : Addr) : V → Hp → VP → WP → Prop := fun x H R W => ∃ t : T, NumV K H x t ∧ t.szk ∧ (t.fits → ∀ v H', NumV K H' v t → R v H') ∧ (¬ t.fits → W CL)
def sp_allowed (K : PySem.W.Frag) (CL : Addr) : Sp := spX1 K (pAllowed K CL)
def t_allowed (K : PySem.W.Frag) (a_TooLarge : Addr) (E : XK) : TS := (tSeq (tIfS (tNot (tB (tCall (sp_is_allowed K) [] E0 (tCons (tVar 0) tNil)))) (tRaise K E a_TooLarge) tNext)
    (tRet (tVar 0)))
theorem pure_allowed {K : PySem.W.Frag} {CL : Addr} {vs : List V} {H : Hp} {Q : VK} {E : XK} (h : sp_allowed K CL vs H Q E) : t_allowed K CL E { nx := fun _ H' => Q .non H', rt := Q } (start ["number"] vs) H := by
  obtain ⟨x, R, W, rfl, ⟨t, hx, hsz, hR, hW⟩, k, kE⟩ := h
  refine q_when (b := !decide t.fits) (et_not (et_B (ev_er (er_call1 (R1 := fun v H => NumV K H v t) (er_var rfl fun H1 e1 => hx.ex e1) numT.mono fun v H1 e1 hv => ⟨t, hv, hsz, rfl⟩)))) (fun hc H1 e1 => ?_) (fun hc H1 e1 => ?_)
  · exact (fun Hz ez => kE CL Hz (e1.trans ez) (hW (by simpa using hc)))
  · exact s_ret (ev_var rfl) fun H2 e2 => k _ _ (e1.trans e2) (hR (by simpa using hc) _ _ (hx.ex (e1.trans e2)))
def pSign (K : PySem.W.Frag) : V → Hp → VP → Prop := fun x H R => ∃ t : T, NumV K H x t ∧ R = fun v _ => v = .int t.sgn
def sp_sign_of (K : PySem.W.Frag) : Sp := spF1 (pSign K)
def t_sign_of (K : PySem.W.Frag) : TS := (tRet (tIf (tTruK K (tVar 0)) (tOp (rIxT K) (tOp (rIxT K) (tVar 0) (tC (.int 0))) (tC (.int 0))) (tC (.int 0))))
theorem pure_sign_of {K : PySem.W.Frag} {vs : List V} {H : Hp} {Q : VK} {E : XK} (h : sp_sign_of K vs H Q E) : t_sign_of K { nx := fun _ H' => Q .non H', rt := Q } (start ["number"] vs) H := by
  obtain ⟨x, R, rfl, ⟨t, hx, rfl⟩, k⟩ := h
  obtain ⟨a, xs, rfl, hs, ht⟩ := hx.out
  refine s_ret (ev_if (et_truT (ev_var rfl) hs) (fun hc => ?_) (fun hc => ?_)) fun H1 e1 => k _ _ e1 rfl
  · cases t with
    | nil => rw [ht.nil_out] at hc; cases hc
    | cons s e r =>
      obtain ⟨p, w, ys, rfl, h1, h2, h3⟩ := ht.cons_out
      exact ev_atT (ev_atT (ev_var rfl) ev_c hs (at_of (j := 0) rfl rfl)) ev_c h1 (at_of (j := 0) rfl rfl)
  · cases t with
    | nil => exact ev_c
    | cons s e r =>
      obtain ⟨p, w, ys, rfl, h1, h2, h3⟩ := ht.cons_out
      cases hc
/-- of_int: the number, TooLarge if it is not allowed, NotAllowed if the integer is too long -/
def pOfInt (K : PySem.W.Frag) (CN CL : Addr) : V → Hp → VP → WP → Prop := fun x H R W => ∃ n : Int, x = .int n ∧
  (n.natAbs < 2 ^ 2900 → (toT n).szk ∧ ((toT n).fits → ∀ v H', NumV K H' v (toT n) → R v H') ∧ (¬ (toT n).fits → W CL)) ∧ (¬ n.natAbs < 2 ^ 2900 → W CN)
def sp_of_int (K : PySem.W.Frag) (CN CL : Addr) : Sp := spX1 K (pOfInt K CN CL)
def t_of_int (K : PySem.W.Frag) (a_NotAllowed : Addr) (a_TooLarge : Addr) (E : XK) : TS := (tSeq (tIfS (tTest (tOp xGt (tBits (tVar 0)) (tC (.int 2900)))) (tRaise K E a_NotAllowed) tNext)
    (tRet (tCall (sp_allowed K a_TooLarge) [] E (tCons (tCall (sp_bare_number K 7) [] E0 (tCons (tVar 0) tNil)) tNil))))
theorem intBits_le_iff (n : Int) (k : Nat) : Builtin.Int.intBits n ≤ k ↔ n.natAbs < 2 ^ k := by
  unfold Builtin.Int.intBits
  by_cases h : n = 0
  · subst h; simp [Nat.two_pow_pos]
  · rw [if_neg (by simpa using h)]
    have h1 : n.natAbs ≠ 0 := by omega
    constructor
    · intro h2
      exact (Nat.log2_lt h1).mp (by omega)
    · intro h2
      have := (Nat.log2_lt h1).mpr h2
      omega
theorem pure_of_int {K : PySem.W.Frag} {CN CL : Addr} {vs : List V} {H : Hp} {Q : VK} {E : XK} (h : sp_of_int K CN CL vs H Q E) : t_of_int K CN CL E { nx := fun _ H' => Q .non H', rt := Q } (start ["value"] vs) H := by
  obtain ⟨x, R, W, rfl, ⟨n, rfl, h1, h2⟩, k, kE⟩ := h
  have hbits := intBits_le_iff n 2900
  refine q_when (b := decide ((2900 : Int) < ((Builtin.Int.intBits n : Nat) : Int))) (et_test (ev_gt (ev_bits (ev_var rfl)) ev_c)) (fun hc H1 e1 => ?_) (fun hc H1 e1 => ?_)
  · have hc' := of_decide_eq_true hc
    exact (fun Hz ez => kE CN Hz (e1.trans ez) (h2 fun q => by have := hbits.mpr q; omega))
  · have hc' := of_decide_eq_false hc
    have hn : n.natAbs < 2 ^ 2900 := hbits.mp (by omega)
    obtain ⟨g1, g2, g3⟩ := h1 hn
    have hcb : n.natAbs < Cb 7 := lt_Cb7 hn (by decide)
    exact x_call1 (R1 := fun v H => NumV K H v (toT n)) (er_call1 (R1 := fun v _ => v = .int n) (er_is (ev_var rfl)) monoC fun v H2 e2 hv => ⟨n, hv, hcb, Nat.le_refl _, rfl⟩) numT.mono _ fun v H2 e2 hn2 =>
      ⟨R, W, ⟨toT n, hn2, g1, g2, g3⟩, fun w H3 e3 hw => k w H3 ((e1.trans e2).trans e3) hw, fun C H3 e3 hw => kE C H3 ((e1.trans e2).trans e3) hw⟩
end Sk
set_option Elab.async false
set_option linter.all false
set_option maxRecDepth 100000
set_option maxHeartbeats 2000000
namespace Sk
open PySem L2 Evl
def rEqN (K : PySem.W.Frag) : R2 := fun x y H Q => ∃ d e, Dp K H x d ∧ Dp K H y e ∧ d.canLay0 = true ∧ e.canLay0 = true ∧ d.depth ≤ 100 ∧ Q (.bl (d.eqv e)) H
theorem op_eqN {X : Cx} (hu : X.A.units + 150 < cLine) : OpR X (compareOp .Eq) (rEqN X.K) := fun pins s σ H x y v u Q I r1 r2 ⟨d, e, h1, h2, h3, h4, h5, q⟩ => by
  obtain ⟨as, ra⟩ := Dp.reads I d x v h1 r1
  obtain ⟨bs, rb⟩ := Dp.reads I e y u h2 r2
  exact SeqAt.compareEq_reads ra rb h3 h4 (by have := Nat.min_le_left d.depth e.depth; omega) ⟨.bl _, H, I, rfl, q⟩
def rNeN (K : PySem.W.Frag) : R2 := fun x y H Q => ∃ d e, Dp K H x d ∧ Dp K H y e ∧ d.canLay0 = true ∧ e.canLay0 = true ∧ d.depth ≤ 100 ∧ Q (.bl (!d.eqv e)) H
theorem op_neN {X : Cx} (hu : X.A.units + 150 < cLine) : OpR X (compareOp .NotEq) (rNeN X.K) := fun pins s σ H x y v u Q I r1 r2 ⟨d, e, h1, h2, h3, h4, h5, q⟩ => by
  obtain ⟨as, ra⟩ := Dp.reads I d x v h1 r1
  obtain ⟨bs, rb⟩ := Dp.reads I e y u h2 r2
  exact SeqAt.compareNe_reads ra rb h3 h4 (by have := Nat.min_le_left d.depth e.depth; omega) ⟨.bl _, H, I, rfl, q⟩
section
variable {K : PySem.W.Frag} {σ : L2.St} {H : Hp} {te tf : TE} {t u : T}
theorem ev_eqN (h : ER te σ H (fun v H2 => NumV K H2 v t)) (h' : ER tf σ H (fun v H2 => NumV K H2 v u)) (hh : t.height ≤ 48) : Ev (tOp (rEqN K) te tf) σ H (.bl (decide (t = u))) := fun H1 e Q q =>
  h H1 e _ fun v H2 e2 r1 => h' H2 (e.trans e2) _ fun w H3 e3 r2 => ⟨t.data, u.data, r1.ex e3, r2, data_lay t, data_lay u, by have := data_depth t; omega, by rw [data_eqv]; exact q H3 (e2.trans e3)⟩
end
end Sk
set_option Elab.async false
set_option linter.all false
set_option maxRecDepth 100000
set_option maxHeartbeats 2000000
namespace Sk
open PySem L2 Evl
section
variable {K : PySem.W.Frag} {σ : L2.St} {H : Hp} {te tf ta : TE}
/-- number[n:] -/
theorem er_fromT {p : Addr} {xs : List V} {n : Nat} (h : Ev te σ H (.ref p)) (hp : SqT K H p xs) (hi : Ev ta σ H (.int (n : Int))) : ER (tSl (rSlA K) te (tPart ta) tNoPart) σ H (fun v H2 => ∃ q, v = .ref q ∧ SqT K H2 q (xs.drop n)) := fun H1 e Q q => by
  have hcut : cutV xs (some (n : Int)) none = xs.drop n := by
    unfold cutV HT.sIx
    simp only
    rw [if_neg (by omega), Int.toNat_natCast]
    rcases Nat.le_total n xs.length with h | h
    · rw [Nat.min_eq_left h, List.take_of_length_le (by rw [List.length_drop]; exact Nat.le_refl _)]
    · rw [Nat.min_eq_right h, List.drop_length, List.drop_of_length_le h]; simp
  refine h H1 e _ fun H2 e2 => ?_
  refine eo_some hi H2 (e.trans e2) _ fun H3 e3 => ?_
  refine eo_none H3 ((e.trans e2).trans e3) _ fun H4 e4 => ?_
  have e14 := e2.trans (e3.trans e4)
  refine ⟨p, xs, rfl, ex_t (e.trans e14) hp, fun hw => ?_, fun hw r hr => ?_⟩
  · refine q _ H4 e14 ⟨p, rfl, ?_⟩
    have h2 := hw.1
    unfold HT.sIx at h2
    simp only at h2
    rw [if_neg (by omega), Int.toNat_natCast] at h2
    have : xs.drop n = xs := by
      rcases Nat.eq_zero_or_pos n with h | h
      · subst h; rfl
      · have : xs = [] := List.length_eq_zero_iff.mp (by omega)
        subst this; simp
    rw [this]
    exact ex_t (e.trans e14) hp
  · refine q _ _ (e14.trans (Ex.new hr)) ⟨r, rfl, st_of ?_⟩
    rw [upd_same, hcut]
/-- number[:keep] -/
theorem er_upTo {p : Addr} {xs : List V} {n : Nat} (h : Ev te σ H (.ref p)) (hp : SqT K H p xs) (hi : Ev ta σ H (.int (n : Int))) : ER (tSl (rSlA K) te tNoPart (tPart ta)) σ H (fun v H2 => ∃ q, v = .ref q ∧ SqT K H2 q (xs.take n)) := fun H1 e Q q => by
  have hcut : cutV xs none (some (n : Int)) = xs.take n := by
    unfold cutV HT.sIx
    simp only [List.drop_zero, Nat.sub_zero]
    rw [if_neg (by omega), Int.toNat_natCast]
    rcases Nat.le_total n xs.length with h | h
    · rw [Nat.min_eq_left h]
    · rw [Nat.min_eq_right h, List.take_length, List.take_of_length_le h]
  refine h H1 e _ fun H2 e2 => ?_
  refine eo_none H2 (e.trans e2) _ fun H3 e3 => ?_
  refine eo_some hi H3 ((e.trans e2).trans e3) _ fun H4 e4 => ?_
  have e14 := e2.trans (e3.trans e4)
  refine ⟨p, xs, rfl, ex_t (e.trans e14) hp, fun hw => ?_, fun hw r hr => ?_⟩
  · refine q _ H4 e14 ⟨p, rfl, ?_⟩
    have h2 := hw.2
    unfold HT.sIx at h2
    simp only at h2
    rw [if_neg (by omega), Int.toNat_natCast] at h2
    rw [List.take_of_length_le (by omega)]
    exact ex_t (e.trans e14) hp
  · refine q _ _ (e14.trans (Ex.new hr)) ⟨r, rfl, st_of ?_⟩
    rw [upd_same, hcut]
theorem walk_zipT {a b : Addr} {xs ys : List V} {n : Nat} (hn : n = min xs.length ys.length) : Walk (RZ.ItzT K a b) n (fun H => SqT K H a xs ∧ SqT K H b ys) (YPair (fun i => xs[i]?) (fun i => ys[i]?)) := by
  subst hn
  refine ⟨fun i _ hi q => ?_, fun _ q => ⟨xs, ys, q.1, q.2, by omega⟩, fun i H v H' _ q y => ?_⟩
  · have h1 : i < xs.length := by omega
    have h2 : i < ys.length := by omega
    exact ⟨xs, ys, xs[i], ys[i], q.1, q.2, by simp [h1], by simp [h2]⟩
  · obtain ⟨T, x, z, h1, h2, h3, h4, h5⟩ := y
    exact ⟨T, x, z, h1, h2, h3, h4 xs q.1, h5 ys q.2⟩
end
section
variable {K : PySem.W.Frag} {σ : L2.St} {H : Hp} {D : Ends} {tz tu tb : TS}
/-- for x, y in zip(a, b), both tuples, with an else -/
theorem q_forZE {i j pi pj : Nat} {a b : Addr} {xs ys : List V} {n : Nat} (hi : σ[pi]? = some (some (.ref a))) (hj : σ[pj]? = some (some (.ref b))) (ha : SqT K H a xs) (hb : SqT K H b ys) (hn : n = min xs.length ys.length) (Pv : Nat → L2.St → Hp → Prop) (h0 : Pv 0 σ H) (hq : ∀ m σ' H', Pv m σ' H' → Ex H H')
    (hs : ∀ m x y σ' H', m < n → xs[m]? = some x → ys[m]? = some y → Pv m σ' H' → ∀ H1, Ex H' H1 → tb { D with nx := Pv (m + 1), ct := Pv (m + 1), bk := tz D } ((σ'.set i (some x)).set j (some y)) H1) (hd : ∀ σ' H', Pv n σ' H' → tu { D with nx := tz D } σ' H') :
    tSeq (tForE (RZ.iZipA K (tCons (tVar pi) (tCons (tVar pj) tNil))) (gTup K 2 (gCons (gName i) (gCons (gName j) gNil))) tb tu) tz D σ H := by
  refine ⟨_, hi, _, hj, a, b, xs, ys, rfl, .inr ⟨ha, hb, ?_⟩⟩
  refine forE_by n Pv h0 (fun m σ' H' hm p => ?_) (fun σ' H' p => ?_) (fun m v σ' H' H'' hm p y => ?_) hd
  · exact (walk_zipT hn).goes m H' hm ⟨ex_t (hq _ _ _ p) ha, ex_t (hq _ _ _ p) hb⟩
  · exact (walk_zipT hn).stops H' ⟨ex_t (hq _ _ _ p) ha, ex_t (hq _ _ _ p) hb⟩
  · obtain ⟨T, x, z, h1, h2, h3, h4, h5⟩ := y
    subst h1 h3
    refine g_pair (st_of upd_same) ?_
    exact hs m x z σ' H' hm (h4 xs (ex_t (hq _ _ _ p) ha)) (h5 ys (ex_t (hq _ _ _ p) hb)) p _ (Ex.new h2)
theorem s_mulI {i : Nat} {a b : Int} {te : TE} (hx : σ[i]? = some (some (.int a))) (h : Ev te σ H (.int b)) (hc : CMul a b) (k : ∀ H1, Ex H H1 → D.nx (σ.set i (some (.int (a * b)))) H1) : tAug i te xMul D σ H :=
  ⟨.int a, hx, h H (Ex.refl H) _ fun H1 e => ⟨a, b, rfl, rfl, hc, k H1 e⟩⟩
theorem ip_mul {X : Cx} : PIp X .Mult xMul := fun pins s σ H x y v u Q I r1 r2 h => iop_mul pins s σ H x y v u Q I r1 r2 h
end
def termD (x : Int × T) : PyData := .tuple [.int x.1, x.2.data]
theorem term_dp {K : PySem.W.Frag} {H : Hp} {x : Int × T} {v : V} (h : TermI K x v H) : Dp K H v (termD x) := by
  obtain ⟨q, w, rfl, h1, h2⟩ := h
  exact .tup h1 (.cons (.int _) (.cons h2 .nil))
theorem term_eqv (x y : Int × T) : (termD x).eqv (termD y) = decide (x = y) := by
  obtain ⟨s, e⟩ := x
  obtain ⟨s', e'⟩ := y
  have h : PyData.eqv (termD (s, e)) (termD (s', e')) = ((s == s') && (PyData.eqv e.data e'.data && true)) := by simp only [termD, PyData.eqv, PyData.eqvAll]
  rw [h, data_eqv, Bool.eq_iff_iff]
  simp
theorem term_lay (x : Int × T) : (termD x).canLay0 = true := by
  have := data_lay x.2
  simp [termD, PyData.canLay0, PyData.canLayAll0, this]
theorem term_depth (x : Int × T) : (termD x).depth ≤ 2 * x.2.height + 4 := by
  have := data_depth x.2
  simp [termD, PyData.depth, PyData.depthAll]
  omega
theorem ev_neTm {K : PySem.W.Frag} {σ : L2.St} {H : Hp} {i j : Nat} {x y : Int × T} {v w : V} (h1 : σ[i]? = some (some v)) (h2 : σ[j]? = some (some w)) (hx : TermI K x v H) (hy : TermI K y w H) (hh : x.2.height ≤ 46) : Ev (tOp (rNeN K) (tVar i) (tVar j)) σ H (.bl (!decide (x = y))) := fun H1 e Q q =>
  ⟨v, h1, w, h2, termD x, termD y, term_dp ((termI x).mono _ _ _ e hx), term_dp ((termI y).mono _ _ _ e hy), term_lay x, term_lay y, by have := term_depth x; omega, by rw [term_eqv]; exact q H1 (Ex.refl H1)⟩
def pOrder (K : PySem.W.Frag) : V → V → Hp → VP → Prop := fun x y H R => ∃ (t u : T), NumV K H x t ∧ NumV K H y u ∧ t.can ∧ u.can ∧ t.height ≤ 47 ∧ t.size < 90000 ∧ u.size < 90000 ∧ R = fun v _ => v = .int (cmpI t.val u.val)
def sp_order (K : PySem.W.Frag) : Sp := spF2 (pOrder K)
def t_order (K : PySem.W.Frag) : TS := (tSeq (tIfS (tTest (tOp (rEqN K) (tVar 0) (tVar 1))) (tRet (tC (.int 0))) tNext)
    (tSeq (tAsg (tC (.int 1)) (gName 2))
    (tSeq (tWhile (tAnd (tTruK K (tVar 0)) (tTruK K (tVar 1))) (tSeq (tForE (RZ.iZipA K (tCons (tVar 0) (tCons (tVar 1) tNil))) (gTup K 2 (gCons (gName 3) (gCons (gName 4) gNil))) (tIfS (tTest (tOp (rNeN K) (tVar 3) (tVar 4))) tBreak tNext) (tSeq (tPar 0 1 (tCons (tSl (rSlA K) (tVar 0) (tPart (tCB (rLenS K) (tCons (tVar 1) tNil))) tNoPart) (tCons (tSl (rSlA K) (tVar 1) (tPart (tCB (rLenS K) (tCons (tVar 0) tNil))) tNoPart) tNil)))
    tBreak))
    (tSeq (tAsg (tVar 3) (gTup K 2 (gCons (gName 5) (gCons (gName 0) gNil))))
    (tSeq (tAsg (tVar 4) (gTup K 2 (gCons (gName 6) (gCons (gName 1) gNil))))
    (tSeq (tIfS (tTest (tOp rNe (tVar 5) (tVar 6))) (tRet (tOp xMul (tVar 2) (tVar 5))) tNext)
    (tAug 2 (tVar 5) xMul))))))
    (tRet (tIf (tTruK K (tVar 0)) (tOp xMul (tVar 2) (tOp (rIxT K) (tOp (rIxT K) (tVar 0) (tC (.int 0))) (tC (.int 0)))) (tOp xMul (tUn xNeg (tVar 2)) (tOp (rIxT K) (tOp (rIxT K) (tVar 1) (tC (.int 0))) (tC (.int 0)))))))))
def WOrder (K : PySem.W.Frag) (t u : T) (H0 : Hp) (m : Nat) (σ : L2.St) (H : Hp) : Prop := ∃ (v1 v2 : V) (t1 u1 : T) (tn : Int) (z3 z4 z5 z6 : Option V), σ = [some v1, some v2, some (.int tn), z3, z4, z5, z6] ∧ Ex H0 H ∧ m = t1.size ∧ NumV K H v1 t1 ∧ NumV K H v2 u1 ∧ t1.can ∧ u1.can ∧ t1 ≠ u1 ∧ (tn = 1 ∨ tn = -1) ∧ t1.height ≤ 47 ∧ t1.size < 90000 ∧ u1.size < 90000 ∧ cmpI t.val u.val = tn * cmpI t1.val u1.val
/-- the first terms of what is left, or none -/
theorem ev_firstSign {K : PySem.W.Frag} {σ : L2.St} {H : Hp} {i : Nat} {a : Addr} {s : Int} {e r : T} (hv : σ[i]? = some (some (.ref a))) (h : NumV K H (.ref a) (.cons s e r)) : Ev (tOp (rIxT K) (tOp (rIxT K) (tVar i) (tC (.int 0))) (tC (.int 0))) σ H (.int s) := by
  obtain ⟨b, xs, hb, hs, ht⟩ := h.out
  cases hb
  obtain ⟨p, w, ys, rfl, h1, h2, h3⟩ := ht.cons_out
  exact ev_atT (ev_atT (ev_var hv) ev_c hs (at_of (j := 0) rfl rfl)) ev_c h1 (at_of (j := 0) rfl rfl)
theorem ord_tail {K : PySem.W.Frag} {Q : VK} {H H0 : Hp} {v1 v2 : V} {t1 u1 : T} {tn : Int} {z3 z4 z5 z6 : Option V} {c : Int} (e0 : Ex H0 H) (k : ∀ v H', Ex H0 H' → v = .int c → Q v H') (h1 : NumV K H v1 t1) (h2 : NumV K H v2 u1) (htn : tn = 1 ∨ tn = -1)
    (hc : (∃ s e r, t1 = .cons s e r ∧ (s = 1 ∨ s = -1) ∧ c = tn * s) ∨ (t1 = .nil ∧ ∃ s e r, u1 = .cons s e r ∧ (s = 1 ∨ s = -1) ∧ c = -tn * s)) :
    tRet (tIf (tTruK K (tVar 0)) (tOp xMul (tVar 2) (tOp (rIxT K) (tOp (rIxT K) (tVar 0) (tC (.int 0))) (tC (.int 0)))) (tOp xMul (tUn xNeg (tVar 2)) (tOp (rIxT K) (tOp (rIxT K) (tVar 1) (tC (.int 0))) (tC (.int 0))))) { nx := fun _ H' => Q .non H', rt := Q } [some v1, some v2, some (.int tn), z3, z4, z5, z6] H := by
  obtain ⟨a, xs, rfl, ha, hx⟩ := h1.out
  obtain ⟨b, ys, rfl, hb, hy⟩ := h2.out
  rcases hc with ⟨s, e, r, rfl, hs, rfl⟩ | ⟨rfl, s, e, r, rfl, hs, rfl⟩
  · refine s_ret (v := .int (tn * s)) (ev_if (b := true) ?_ (fun _ => ev_mul (ev_var rfl) (ev_firstSign rfl h1) (.inl (by rcases htn with rfl | rfl <;> decide))) (fun h => by cases h)) fun H1 e1 => k _ _ (e0.trans e1) rfl
    obtain ⟨p, w, zs, rfl, _, _, _⟩ := hx.cons_out
    exact et_truT (ev_var rfl) ha
  · refine s_ret (v := .int (-tn * s)) (ev_if (b := false) ?_ (fun h => by cases h) (fun _ => ev_mul (ev_neg (ev_var rfl)) (ev_firstSign rfl h2) (.inl (by rcases htn with rfl | rfl <;> decide)))) fun H1 e1 => k _ _ (e0.trans e1) rfl
    have : xs = [] := hx.nil_out
    subst this
    exact et_truT (ev_var rfl) ha
theorem pure_order {K : PySem.W.Frag} {vs : List V} {H : Hp} {Q : VK} {E : XK} (h : sp_order K vs H Q E) : t_order K { nx := fun _ H' => Q .non H', rt := Q } (start ["first", "second", "turn", "left", "right", "sign", "other"] vs) H := by
  obtain ⟨x, y, R, rfl, ⟨t, u, hx, hy, ht, hu, hh, hz1, hz2, rfl⟩, k⟩ := h
  refine q_when (et_test (ev_eqN (t := t) (u := u) (er_var rfl fun H1 e1 => hx.ex e1) (er_var rfl fun H1 e1 => hy.ex e1) (by omega))) (fun hc H1 e1 => ?_) (fun hc H1 e1 => ?_)
  · have := of_decide_eq_true hc
    subst this
    exact s_ret ev_c fun H2 e2 => k _ _ (e1.trans e2) (by rw [cmp_self])
  have hne : t ≠ u := of_decide_eq_false hc
  refine q_asg ev_c fun H2 e2 => ?_
  refine q_while' (WOrder K t u H) t.size ⟨x, y, t, u, 1, none, none, none, none, rfl, e1.trans e2, rfl, hx.ex (e1.trans e2), hy.ex (e1.trans e2), ht, hu, hne, .inl rfl, hh, hz1, hz2, by rw [Int.one_mul]⟩ ?_
  rintro m σ' H' ⟨v1, v2, t1, u1, tn, z3, z4, z5, z6, rfl, e3, rfl, h1, h2, c1, c2, hne1, htn, hh1, hs1, hs2, hcmp⟩
  obtain ⟨a, xs, rfl, ha, hxs⟩ := _root_.id h1.out
  obtain ⟨b, ys, rfl, hb, hys⟩ := _root_.id h2.out
  have lx := hxs.len
  have ly := hys.len
  refine ⟨!xs.isEmpty && !ys.isEmpty, et_and (et_truT (ev_var rfl) ha) (fun _ => et_truT (ev_var rfl) hb), fun hb1 H4 e4 => ?_, fun hb1 H4 e4 => ?_⟩
  · have it1 := items_terms hxs
    have it2 := items_terms hys
    -- the words of the inner loop: the first i terms are the same
    refine q_forZE (i := 3) (j := 4) (pi := 0) (pj := 1) (n := min xs.length ys.length) rfl rfl (ex_t e4 ha) (ex_t e4 hb) rfl (fun i σ H5 => ∃ z3 z4, σ = [some (.ref a), some (.ref b), some (.int tn), z3, z4, z5, z6] ∧ Ex H4 H5 ∧ t1.toL.take i = u1.toL.take i) ⟨z3, z4, rfl, Ex.refl _, rfl⟩ (fun m σ' H' ⟨_, _, _, e, _⟩ => e) ?_ ?_
    · rintro i x' y' σ H5 hi hx' hy' ⟨z3, z4, rfl, e5, hp⟩ H6 e6
      have e46 := e4.trans (e5.trans e6)
      obtain ⟨⟨s, e⟩, g1, g2⟩ := (it1.ex (fun x => (termI x).mono) e46).of_at hx'
      obtain ⟨⟨s', e'⟩, g3, g4⟩ := (it2.ex (fun x => (termI x).mono) e46).of_at hy'
      have m1 := mem_size (List.mem_of_getElem? g1)
      have m2 := mem_size (List.mem_of_getElem? g3)
      have m1' : e.size < t1.size ∧ e.height < t1.height := m1
      have m2' : e'.size < u1.size ∧ e'.height < u1.height := m2
      refine s_when (b := !decide ((s, e) = (s', e'))) (et_test (ev_neTm rfl rfl g2 g4 (by show e.height ≤ 46; omega))) (fun hd H7 e7 => ?_) (fun hd H7 e7 => ?_)
      · have hdne : (s, e) ≠ (s', e') := of_decide_eq_false ((Bool.not_eq_true' _).mp hd)
        obtain ⟨k1, k2⟩ := ord_diff c1 c2 hp g1 g3 hdne
        obtain ⟨q, w, rfl, q1, q2⟩ := g2
        obtain ⟨q', w', rfl, q1', q2'⟩ := g4
        have sgn1 : s = 1 ∨ s = -1 := (can_sign c1 _ (List.mem_of_getElem? g1)).1
        have sgn2 : s' = 1 ∨ s' = -1 := (can_sign c2 _ (List.mem_of_getElem? g3)).1
        unfold tBreak
        dsimp only
        refine q_unpack2 (K := K) (R := fun v _ => v = .ref q) (er_is (ev_var rfl)) fun v H8 e8 hv => ⟨q, .int s, w, hv, ex_t (e7.trans e8) q1, ?_⟩
        refine q_unpack2 (K := K) (R := fun v _ => v = .ref q') (er_is (ev_var rfl)) fun v H9 e9 hv => ⟨q', .int s', w', hv, ex_t (e7.trans (e8.trans e9)) q1', ?_⟩
        refine q_when (b := !decide (V.int s = V.int s')) (et_test (ev_ne (ev_var rfl) (ev_var rfl) rfl)) (fun hss H10 e10 => ?_) (fun hss H10 e10 => ?_)
        · have hss' : s ≠ s' := fun q => by subst q; simp at hss
          have e310 := e3.trans (e46.trans (e7.trans (e8.trans (e9.trans e10))))
          exact s_ret (ev_mul (ev_var rfl) (ev_var rfl) (.inl (by rcases htn with rfl | rfl <;> decide))) fun H11 e11 => k _ _ (e310.trans e11) (by rw [hcmp, k1 hss'])
        · have hss' : s = s' := by simpa using hss
          obtain ⟨k3, k4⟩ := k2 hss'
          subst hss'
          refine s_mulI (a := tn) (b := s) rfl (ev_var rfl) (.inl (by rcases htn with rfl | rfl <;> decide)) fun H11 e11 => ?_
          have e711 := e7.trans (e8.trans (e9.trans (e10.trans e11)))
          refine ⟨e.size, m1'.1, w, w', e, e', tn * s, _, _, _, _, rfl, e3.trans (e46.trans e711), rfl, q2.ex e711, q2'.ex e711, can_mem c1 _ (List.mem_of_getElem? g1), can_mem c2 _ (List.mem_of_getElem? g3), k3, ?_, by omega, by omega, by omega, by rw [hcmp, k4, Int.mul_assoc]⟩
          rcases htn with rfl | rfl <;> rcases sgn1 with rfl | rfl <;> decide
      · have hdeq : (s, e) = (s', e') := of_decide_eq_true (by rw [Bool.not_eq_false'] at hd; exact hd)
        refine ⟨_, _, rfl, e5.trans (e6.trans e7), ?_⟩
        rw [take_snoc g1, take_snoc g3, hp, hdeq]
    · rintro σ H5 ⟨z3, z4, rfl, e5, hp⟩
      have hend := ord_end c1 c2 hp hne1 (by rw [lx, ly])
      have e45 := e4.trans e5
      refine er_fromT (n := ys.length) (ev_var rfl) (ex_t e45 ha) (ev_lenT (ev_var rfl) (ex_t e45 hb)) H5 (Ex.refl _) _ fun v H5' e5' ⟨q, hv, g2⟩ => ?_
      refine er_fromT (n := xs.length) (ev_var rfl) (ex_t (e45.trans e5') hb) (ev_lenT (ev_var rfl) (ex_t (e45.trans e5') ha)) H5' (Ex.refl _) _ fun v' H6 e6 ⟨q', hv', g3⟩ => ?_
      subst hv hv'
      refine ⟨_, _, rfl, ?_⟩
      · have g2 := ex_t e6 g2
        have e46 := e45.trans (e5'.trans e6)
        have n1 : NumV K H6 (.ref q) (ofL (t1.toL.drop u1.toL.length)) := by
          refine NumV.mk g2 (terms_items ?_)
          rw [← ly]
          exact ((it1.ex (fun x => (termI x).mono) e46).drop ys.length)
        have n2 : NumV K H6 (.ref q') (ofL (u1.toL.drop t1.toL.length)) := by
          refine NumV.mk g3 (terms_items ?_)
          rw [← lx]
          exact ((it2.ex (fun x => (termI x).mono) e46).drop xs.length)
        refine ord_tail (e3.trans e46) k n1 n2 htn ?_
        rcases hend with ⟨s, e, r, d1, d2, hc⟩ | ⟨s, e, r, d1, d2, hc⟩
        · refine .inl ⟨s, e, ofL r, by rw [d1]; rfl, (can_sign c1 (s, e) (List.mem_of_mem_drop (by rw [d1]; exact List.mem_cons_self))).1, by rw [hcmp, hc]⟩
        · refine .inr ⟨by rw [d2]; rfl, s, e, ofL r, by rw [d1]; rfl, (can_sign c2 (s, e) (List.mem_of_mem_drop (by rw [d1]; exact List.mem_cons_self))).1, by rw [hcmp, hc, Int.mul_neg, Int.neg_mul]⟩
  · refine ord_tail (e3.trans e4) k (h1.ex e4) (h2.ex e4) htn ?_
    rw [Bool.and_eq_false_iff] at hb1
    cases t1 with
    | nil =>
      cases u1 with
      | nil => exact absurd rfl hne1
      | cons s e r =>
        refine .inr ⟨rfl, s, e, r, rfl, c2.1.1, ?_⟩
        have p := can_pos c2
        have : cmpI T.nil.val (T.cons s e r).val = -s := by
          show cmpI 0 _ = _
          generalize (T.cons s e r).val = x at *
          rcases (show s = 1 ∨ s = -1 from c2.1.1) with rfl | rfl
          · exact cmp_lt (by omega)
          · exact cmp_gt (by omega)
        rw [hcmp, this, Int.mul_neg, Int.neg_mul]
    | cons s e r =>
      refine .inl ⟨s, e, r, rfl, c1.1.1, ?_⟩
      obtain ⟨_, _, _, hxe, _⟩ := hxs.cons_out
      have hu0 : u1 = .nil := by
        rcases hb1 with q | q
        · rw [hxe] at q; cases q
        · cases u1 with
          | nil => rfl
          | cons s' e' r' =>
            obtain ⟨_, _, _, hye, _⟩ := hys.cons_out
            rw [hye] at q; cases q
      subst hu0
      have p := can_pos c1
      have : cmpI (T.cons s e r).val T.nil.val = s := by
        show cmpI _ 0 = _
        generalize (T.cons s e r).val = x at *
        rcases (show s = 1 ∨ s = -1 from c1.1.1) with rfl | rfl
        · exact cmp_gt (by omega)
        · exact cmp_lt (by omega)
      rw [hcmp, this]
def pCompare (K : PySem.W.Frag) : V → V → Hp → VP → Prop := fun x y H R => ∃ (t u : T), NumV K H x t ∧ NumV K H y u ∧ t.can ∧ u.can ∧ t.height ≤ 47 ∧ t.size < 90000 ∧ u.size < 90000 ∧ R = fun v _ => v = .int (cmpI t.val u.val)
def sp_compare (K : PySem.W.Frag) : Sp := spF2 (pCompare K)
def t_compare (K : PySem.W.Frag) : TS := (tRet (tCall (sp_order K) [] E0 (tCons (tVar 0) (tCons (tVar 1) tNil))))
theorem pure_compare {K : PySem.W.Frag} {vs : List V} {H : Hp} {Q : VK} {E : XK} (h : sp_compare K vs H Q E) : t_compare K { nx := fun _ H' => Q .non H', rt := Q } (start ["first", "second"] vs) H := by
  obtain ⟨x, y, R, rfl, ⟨t, u, hx, hy, ht, hu, hh, hz1, hz2, rfl⟩, k⟩ := h
  exact s_retR (er_call2 (R1 := fun v H => NumV K H v t) (R2 := fun v H => NumV K H v u) (er_var rfl fun H1 e1 => hx.ex e1) numT.mono (er_var rfl fun H1 e1 => hy.ex e1) numT.mono fun v w H1 e1 g1 g2 => ⟨t, u, g1, g2, ht, hu, hh, hz1, hz2, rfl⟩) fun v H1 e1 h => k v H1 e1 h
end Sk
set_option Elab.async false
set_option linter.all false
set_option maxRecDepth 100000
set_option maxHeartbeats 2000000
namespace Sk
open PySem L2 Evl
/-- n different remainders, the next one is that of 2 ** l -/
def IsRow (m n l : Nat) : Prop := l < n ∧ 2 ^ n % m = 2 ^ l % m ∧ ∀ i j, i < j → j < n → 2 ^ i % m ≠ 2 ^ j % m
theorem distinct_le {m n : Nat} (hm : 0 < m) (h : ∀ i j, i < j → j < n → 2 ^ i % m ≠ 2 ^ j % m) : n ≤ m := by
  have nd : ((List.range n).map fun i => 2 ^ i % m).Nodup := by
    rw [List.nodup_iff_pairwise_ne, List.pairwise_map]
    refine List.Pairwise.imp_of_mem (R := fun a b => a < b) (fun {a b} ha hb hab => h a b hab (List.mem_range.mp hb)) List.pairwise_lt_range
  have := nd.length_le_of_subset (l₂ := List.range m) (fun x hx => by
    obtain ⟨i, _, rfl⟩ := List.mem_map.mp hx
    exact List.mem_range.mpr (Nat.mod_lt _ hm))
  simpa using this
theorem IsRow.le {m n l : Nat} (hm : 0 < m) (h : IsRow m n l) : n ≤ m := distinct_le hm h.2.2
theorem IsRow.uniq {m n l n' l' : Nat} (h : IsRow m n l) (h' : IsRow m n' l') : n = n' ∧ l = l' := by
  have hn : n = n' := by
    rcases Nat.lt_trichotomy n n' with q | q | q
    · exact absurd h.2.1.symm (h'.2.2 l n h.1 q)
    · exact q
    · exact absurd h'.2.1.symm (h.2.2 l' n' h'.1 q)
  subst hn
  refine ⟨rfl, ?_⟩
  have e : 2 ^ l % m = 2 ^ l' % m := h.2.1.symm.trans h'.2.1
  rcases Nat.lt_trichotomy l l' with q | q | q
  · exact absurd e (h.2.2 l l' q h'.1)
  · exact q
  · exact absurd e.symm (h.2.2 l' l q h.1)
/-- behind the lead the remainders come again -/
theorem IsRow.again {m n l : Nat} (h : IsRow m n l) (k : Nat) : ∀ i, l ≤ i → 2 ^ (i + k * (n - l)) % m = 2 ^ i % m := by
  have one : ∀ i, l ≤ i → 2 ^ (i + (n - l)) % m = 2 ^ i % m := fun i hi => by
    have e1 : i + (n - l) = n + (i - l) := by have := h.1; omega
    have e2 : i = l + (i - l) := by omega
    rw [e1, Nat.pow_add, Nat.mul_mod, h.2.1, ← Nat.mul_mod, ← Nat.pow_add, ← e2]
  induction k with
  | zero => intro i _; rw [Nat.zero_mul, Nat.add_zero]
  | succ k ih =>
    intro i hi
    rw [Nat.succ_mul, ← Nat.add_assoc, one _ (by omega), ih i hi]
theorem IsRow.turn {m n l : Nat} (h : IsRow m n l) {e : Nat} (he : l ≤ e) : 2 ^ e % m = 2 ^ (l + (e - l) % (n - l)) % m := by
  have h1 := h.again ((e - l) / (n - l)) (l + (e - l) % (n - l)) (Nat.le_add_right _ _)
  rw [← h1]
  have h2 := Nat.mod_add_div (e - l) (n - l)
  rw [Nat.mul_comm] at h2
  congr 2
  omega
/-- what the dict of places says behind i powers -/
structure Plc (m i : Nat) (kvs : List (Key × V)) : Prop where
  len : kvs.length = i
  has : ∀ j, j < i → valV kvs (Sum.inl (((2 ^ j % m : Nat) : Int))) = some (.int (j : Int))
  only : ∀ k v, valV kvs (Sum.inl k) = some v → ∃ j, j < i ∧ k = ((2 ^ j % m : Nat) : Int)
  dist : ∀ a b, a < b → b < i → 2 ^ a % m ≠ 2 ^ b % m
theorem Plc.next {m i : Nat} {kvs : List (Key × V)} (h : Plc m i kvs) (hn : valV kvs (Sum.inl (((2 ^ i % m : Nat) : Int))) = none) : Plc m (i + 1) (putK kvs (Sum.inl (((2 ^ i % m : Nat) : Int))) (.int (i : Int))) := by
  have hd : ∀ a, a < i → 2 ^ a % m ≠ 2 ^ i % m := fun a ha e => by
    have := h.has a ha
    rw [e, hn] at this
    cases this
  refine ⟨by rw [putK_new _ hn, List.length_append, h.len]; rfl, fun j hj => ?_, fun k v hk => ?_, fun a b hab hb => ?_⟩
  · rw [valV_put]
    by_cases e : j = i
    · subst e; rw [if_pos rfl]
    · have hj' : j < i := by omega
      rw [if_neg (fun q => hd j hj' (by have := Sum.inl.inj q; exact_mod_cast this))]
      exact h.has j hj'
  · rw [valV_put] at hk
    split at hk
    · rename_i q
      exact ⟨i, Nat.lt_succ_self _, Sum.inl.inj q⟩
    · obtain ⟨j, h1, h2⟩ := h.only k v hk
      exact ⟨j, Nat.lt_succ_of_lt h1, h2⟩
  · rcases Nat.lt_or_eq_of_le (Nat.le_of_lt_succ hb) with q | q
    · exact h.dist a b hab q
    · subst q; exact hd a hab
theorem Plc.done {m i : Nat} {kvs : List (Key × V)} (h : Plc m i kvs) (hs : (valV kvs (Sum.inl (((2 ^ i % m : Nat) : Int)))).isSome = true) : ∃ l, IsRow m i l ∧ valV kvs (Sum.inl (((2 ^ i % m : Nat) : Int))) = some (.int (l : Int)) := by
  obtain ⟨v, hv⟩ := Option.isSome_iff_exists.mp hs
  obtain ⟨l, h1, h2⟩ := h.only _ v hv
  have h3 : 2 ^ i % m = 2 ^ l % m := by exact_mod_cast h2
  exact ⟨l, ⟨h1, h3, h.dist⟩, by rw [h3]; exact h.has l h1⟩
theorem Plc.le {m i : Nat} {kvs : List (Key × V)} (hm : 0 < m) (h : Plc m i kvs) : i ≤ m := distinct_le hm h.dist
end Sk
set_option Elab.async false
set_option linter.all false
set_option maxRecDepth 100000
set_option maxHeartbeats 2000000
namespace Sk
theorem naf_len_p (k : Nat) : ∀ (n : Int) (p q : Nat), n.natAbs ≤ k → (naf n p).length = (naf n q).length := by
  induction k with
  | zero =>
    intro n p q h
    have : n = 0 := by omega
    subst this; rw [naf_zero, naf_zero]
  | succ k ih =>
    intro n p q h
    by_cases h0 : n = 0
    · subst h0; rw [naf_zero, naf_zero]
    rcases Int.emod_two_eq n with e | e
    · rw [naf_even e, naf_even e]; exact ih _ _ _ (by omega)
    · rw [naf_odd e, naf_odd e, List.length_cons, List.length_cons]
      by_cases hz : (n - (2 - n % 4)) / 2 = 0
      · rw [hz, naf_zero, naf_zero]
      · rw [ih _ (p + 1) (q + 1) (by omega)]
def wt (n : Int) : Nat := (naf n 0).length
theorem wt_zero : wt 0 = 0 := by unfold wt; rw [naf_zero] <;> rfl
theorem wt_even {n : Int} (h : n % 2 = 0) : wt n = wt (n / 2) := by
  unfold wt
  rw [naf_even h]
  exact naf_len_p _ _ _ _ (Nat.le_refl _)
theorem wt_dbl (n : Int) : wt (2 * n) = wt n := by
  rw [wt_even (by omega), show 2 * n / 2 = n by omega]
theorem wt_one {n : Int} (h : n % 4 = 1) : wt n = wt ((n - 1) / 4) + 1 := by
  unfold wt
  rw [naf_odd (by omega), List.length_cons, show (n - (2 - n % 4)) / 2 = 2 * ((n - 1) / 4) by omega]
  rw [naf_len_p _ (2 * ((n - 1) / 4)) (0 + 1) 0 (Nat.le_refl _)]
  exact congrArg (· + 1) (wt_dbl _)
theorem wt_three {n : Int} (h : n % 4 = 3) : wt n = wt ((n + 1) / 4) + 1 := by
  unfold wt
  rw [naf_odd (by omega), List.length_cons, show (n - (2 - n % 4)) / 2 = 2 * ((n + 1) / 4) by omega]
  rw [naf_len_p _ (2 * ((n + 1) / 4)) (0 + 1) 0 (Nat.le_refl _)]
  exact congrArg (· + 1) (wt_dbl _)
/-- one more or less, one term more at most; beside an odd number no more than it has -/
theorem wt_near : ∀ (k : Nat) (n : Int), n.natAbs ≤ k → (wt (n + 1) ≤ wt n + 1 ∧ wt (n - 1) ≤ wt n + 1) ∧ (n % 2 = 1 → wt (n + 1) ≤ wt n ∧ wt (n - 1) ≤ wt n)
  | 0, n, h => by
    have : n = 0 := by omega
    subst this
    have h1 : wt 1 = 1 := by rw [wt_one (by decide), show ((1 : Int) - 1) / 4 = 0 by decide, wt_zero]
    have h2 : wt (-1) = 1 := by rw [wt_three (by decide), show ((-1 : Int) + 1) / 4 = 0 by decide, wt_zero]
    exact ⟨⟨by show wt 1 ≤ _; omega, by show wt (-1) ≤ _; omega⟩, fun q => absurd q (by decide)⟩
  | k + 1, n, h => by
    by_cases h0 : n = 0
    · subst h0
      exact ⟨(wt_near 0 0 (Nat.le_refl _)).1, fun q => absurd q (by decide)⟩
    have key : n % 4 = 0 ∨ n % 4 = 1 ∨ n % 4 = 2 ∨ n % 4 = 3 := by omega
    rcases key with q | q | q | q
    · have a1 : wt (n + 1) = wt (n / 4) + 1 := by rw [wt_one (by omega), show (n + 1 - 1) / 4 = n / 4 by omega]
      have a2 : wt (n - 1) = wt (n / 4) + 1 := by rw [wt_three (by omega), show (n - 1 + 1) / 4 = n / 4 by omega]
      have a3 : wt n = wt (n / 4) := by rw [wt_even (by omega), wt_even (by omega), show n / 2 / 2 = n / 4 by omega]
      exact ⟨⟨by omega, by omega⟩, fun z => absurd z (by omega)⟩
    · -- n = 4 j + 1
      have a0 : wt n = wt ((n - 1) / 4) + 1 := wt_one q
      have a1 : wt (n - 1) = wt ((n - 1) / 4) := by rw [wt_even (by omega), wt_even (by omega), show (n - 1) / 2 / 2 = (n - 1) / 4 by omega]
      have a2 : wt (n + 1) = wt (2 * ((n - 1) / 4) + 1) := by rw [wt_even (by omega), show (n + 1) / 2 = 2 * ((n - 1) / 4) + 1 by omega]
      have a3 : wt (2 * ((n - 1) / 4) + 1) ≤ wt (2 * ((n - 1) / 4)) + 1 := by
        by_cases hz : (n - 1) / 4 = 0
        · rw [hz]; exact (wt_near 0 0 (Nat.le_refl _)).1.1
        · exact (wt_near k _ (by omega)).1.1
      rw [wt_dbl] at a3
      exact ⟨⟨by omega, by omega⟩, fun _ => ⟨by omega, by omega⟩⟩
    · -- n = 4 j + 2
      have a0 : wt n = wt (n / 2) := wt_even (by omega)
      have ih := (wt_near k (n / 2) (by omega)).2 (by omega)
      have a1 : wt (n + 1) = wt ((n + 2) / 4) + 1 := by rw [wt_three (by omega), show (n + 1 + 1) / 4 = (n + 2) / 4 by omega]
      have a2 : wt (n - 1) = wt ((n - 2) / 4) + 1 := by rw [wt_one (by omega), show (n - 1 - 1) / 4 = (n - 2) / 4 by omega]
      have b1 : wt (n / 2 + 1) = wt ((n + 2) / 4) := by rw [wt_even (by omega), show (n / 2 + 1) / 2 = (n + 2) / 4 by omega]
      have b2 : wt (n / 2 - 1) = wt ((n - 2) / 4) := by rw [wt_even (by omega), show (n / 2 - 1) / 2 = (n - 2) / 4 by omega]
      exact ⟨⟨by omega, by omega⟩, fun z => absurd z (by omega)⟩
    · have a0 : wt n = wt ((n + 1) / 4) + 1 := wt_three q
      have a1 : wt (n + 1) = wt ((n + 1) / 4) := by rw [wt_even (by omega), wt_even (by omega), show (n + 1) / 2 / 2 = (n + 1) / 4 by omega]
      have a2 : wt (n - 1) = wt (2 * ((n + 1) / 4) - 1) := by rw [wt_even (by omega), show (n - 1) / 2 = 2 * ((n + 1) / 4) - 1 by omega]
      have a3 : wt (2 * ((n + 1) / 4) - 1) ≤ wt (2 * ((n + 1) / 4)) + 1 := by
        by_cases hz : (n + 1) / 4 = 0
        · rw [hz]; exact (wt_near 0 0 (Nat.le_refl _)).1.2
        · exact (wt_near k _ (by omega)).1.2
      rw [wt_dbl] at a3
      exact ⟨⟨by omega, by omega⟩, fun _ => ⟨by omega, by omega⟩⟩
theorem wt_succ (n : Int) : wt (n + 1) ≤ wt n + 1 := (wt_near _ n (Nat.le_refl _)).1.1
theorem wt_pred (n : Int) : wt (n - 1) ≤ wt n + 1 := (wt_near _ n (Nat.le_refl _)).1.2
/-- a power of two more or less -/
theorem wt_pow : ∀ (p : Nat) (n s : Int), (s = 1 ∨ s = -1) → wt (n + s * 2 ^ p) ≤ wt n + 1
  | 0, n, s, hs => by
    rw [Int.pow_zero, Int.mul_one]
    rcases hs with rfl | rfl
    · exact wt_succ n
    · exact wt_pred n
  | p + 1, n, s, hs => by
    have e : s * 2 ^ (p + 1) = 2 * (s * 2 ^ p) := by rw [Int.pow_succ, ← Int.mul_assoc, Int.mul_comm]
    rw [e]
    rcases Int.emod_two_eq n with q | q
    · rw [wt_even (n := n) q, show n + 2 * (s * 2 ^ p) = 2 * (n / 2 + s * 2 ^ p) by omega, wt_dbl]
      exact wt_pow p _ s hs
    · cases p with
      | zero =>
        rw [Int.pow_zero, Int.mul_one]
        have h4 : n % 4 = 1 ∨ n % 4 = 3 := by omega
        rcases hs with rfl | rfl <;> rcases h4 with h4 | h4
        · have a0 := wt_one h4
          have a1 : wt (n + 2 * 1) = wt ((n - 1) / 4 + 1) + 1 := by rw [wt_three (by omega), show (n + 2 * 1 + 1) / 4 = (n - 1) / 4 + 1 by omega]
          have := wt_succ ((n - 1) / 4)
          omega
        · have a0 := wt_three h4
          have a1 : wt (n + 2 * 1) = wt ((n + 1) / 4) + 1 := by rw [wt_one (by omega), show (n + 2 * 1 - 1) / 4 = (n + 1) / 4 by omega]
          omega
        · have a0 := wt_one h4
          have a1 : wt (n + 2 * -1) = wt ((n - 1) / 4) + 1 := by rw [wt_three (by omega), show (n + 2 * -1 + 1) / 4 = (n - 1) / 4 by omega]
          omega
        · have a0 := wt_three h4
          have a1 : wt (n + 2 * -1) = wt ((n + 1) / 4 - 1) + 1 := by rw [wt_one (by omega), show (n + 2 * -1 - 1) / 4 = (n + 1) / 4 - 1 by omega]
          have := wt_pred ((n + 1) / 4)
          omega
      | succ p =>
        have e2 : 2 * (s * 2 ^ (p + 1)) = 4 * (s * 2 ^ p) := by
          have h3 : s * (2 ^ p * 2) = (s * 2 ^ p) * 2 := (Int.mul_assoc _ _ _).symm
          rw [Int.pow_succ, h3]; omega
        rw [e2]
        have h4 : n % 4 = 1 ∨ n % 4 = 3 := by omega
        rcases h4 with h4 | h4
        · rw [wt_one (n := n) h4, wt_one (n := n + _) (by omega), show (n + 4 * (s * 2 ^ p) - 1) / 4 = (n - 1) / 4 + s * 2 ^ p by omega]
          have := wt_pow p ((n - 1) / 4) s hs
          omega
        · rw [wt_three (n := n) h4, wt_three (n := n + _) (by omega), show (n + 4 * (s * 2 ^ p) + 1) / 4 = (n + 1) / 4 + s * 2 ^ p by omega]
          have := wt_pow p ((n + 1) / 4) s hs
          omega
def placesF : Nat → Nat → Nat → List Nat
  | 0, _, _ => []
  | f + 1, n, p => if n = 0 then [] else if n % 4 = 1 then p :: placesF f ((n - 1) / 2) (p + 1) else if n % 4 = 3 then p :: placesF f ((n + 1) / 2) (p + 1) else placesF f (n / 2) (p + 1)
theorem placesF_eq : ∀ (f n p : Nat), n ≤ 2 ^ f → placesF (f + 1) n p = (naf (n : Int) p).map (·.2)
  | 0, n, p, h => by
    have h' : n = 0 ∨ n = 1 := by simp at h; omega
    rcases h' with rfl | rfl
    · rw [show ((0 : Nat) : Int) = 0 from rfl, naf_zero] <;> rfl
    · rw [show ((1 : Nat) : Int) = 1 from rfl, naf_odd (by decide), show ((1 : Int) - (2 - 1 % 4)) / 2 = 0 by decide, naf_zero] <;> rfl
  | f + 1, n, p, h => by
    rw [Nat.pow_succ] at h
    have hp : 0 < 2 ^ f := Nat.two_pow_pos f
    by_cases h0 : n = 0
    · subst h0; rw [show ((0 : Nat) : Int) = 0 from rfl, naf_zero] <;> rfl
    have key : n % 4 = 0 ∨ n % 4 = 1 ∨ n % 4 = 2 ∨ n % 4 = 3 := by omega
    unfold placesF
    rw [if_neg h0]
    rcases key with q | q | q | q
    · rw [if_neg (by omega), if_neg (by omega), placesF_eq f (n / 2) (p + 1) (by omega), naf_even (n := (n : Int)) (by omega), show ((n : Int)) / 2 = ((n / 2 : Nat) : Int) by omega]
    · rw [if_pos q, placesF_eq f ((n - 1) / 2) (p + 1) (by omega), naf_odd (n := (n : Int)) (by omega), show ((n : Int) - (2 - (n : Int) % 4)) / 2 = (((n - 1) / 2 : Nat) : Int) by omega, List.map_cons]
    · rw [if_neg (by omega), if_neg (by omega), placesF_eq f (n / 2) (p + 1) (by omega), naf_even (n := (n : Int)) (by omega), show ((n : Int)) / 2 = ((n / 2 : Nat) : Int) by omega]
    · rw [if_neg (by omega), if_pos q, placesF_eq f ((n + 1) / 2) (p + 1) (by omega), naf_odd (n := (n : Int)) (by omega), show ((n : Int) - (2 - (n : Int) % 4)) / 2 = (((n + 1) / 2 : Nat) : Int) by omega, List.map_cons]
theorem size_toT (n : Int) : (toT n).size = 1 + (((naf n 0).map (·.2)).map fun p : Nat => (toT (p : Int)).size).sum := by
  rw [size_toL, toL_toT, List.map_map, List.map_map]
  congr 1
  exact (List.reverse_perm _).map _ |>.sum_nat
def szF : Nat → Nat → Nat
  | 0, _ => 1
  | d + 1, n => 1 + ((placesF 15 n 0).map (szF d)).sum
theorem szF_eq : ∀ (d n : Nat), n < Cb (d + 1) → n ≤ 16384 → szF d n = (toT (n : Int)).size
  | 0, n, h, _ => by
    have : n = 0 := by
      have : n < 1 := h
      omega
    subst this
    rw [show ((0 : Nat) : Int) = 0 from rfl, toT_eq, naf_zero] <;> rfl
  | d + 1, n, h, h2 => by
    rw [size_toT, szF, placesF_eq 14 n 0 h2]
    congr 2
    refine List.map_congr_left fun p hp => ?_
    obtain ⟨x, hx, rfl⟩ := List.mem_map.mp hp
    refine szF_eq d x.2 (Cb_step (by simpa using h) hx) ?_
    have := naf_lt hx
    simp at this
    omega
theorem Cb_ge5 : 16385 ≤ Cb 6 := by
  have h3 : Cb 3 = 3 := by decide
  have h4 : Cb 4 = 5 := by show 2 ^ (Cb 3 - 1) + 1 = 5; rw [h3] <;> rfl
  have h5 : Cb 5 = 17 := by show 2 ^ (Cb 4 - 1) + 1 = 17; rw [h4] <;> rfl
  have h6 : Cb 6 = 65537 := by show 2 ^ (Cb 5 - 1) + 1 = 65537; rw [h5] <;> rfl
  omega
theorem sz_le (n : Nat) (h : n ≤ 16384) : szF 5 n = (toT (n : Int)).size := szF_eq 5 n (Nat.lt_of_lt_of_le (Nat.lt_succ_of_le h) Cb_ge5) h
def tb : List Nat := [1, 2, 3, 5, 4, 5, 8, 7, 6, 7, 8, 9, 8, 9]
theorem tb_eq : ∀ p : Nat, p < 14 → tb.getD p 0 = (toT (p : Int)).size := by
  have h : ∀ p : Nat, p < 14 → tb.getD p 0 = szF 5 p := by decide +kernel
  intro p hp
  rw [← sz_le p (by omega)]
  exact h p hp
theorem sz14 : ∀ p : Nat, p < 14 → (toT (p : Int)).size ≤ 9 := by
  intro p hp
  rw [← tb_eq p hp]
  exact (by decide : ∀ p : Nat, p < 14 → tb.getD p 0 ≤ 9) p hp
def costF : Nat → Nat → Nat → Nat
  | 0, _, _ => 0
  | f + 1, n, p => if n = 0 then 0 else if n % 4 = 1 then tb.getD p 0 + costF f ((n - 1) / 2) (p + 1) else if n % 4 = 3 then tb.getD p 0 + costF f ((n + 1) / 2) (p + 1) else costF f (n / 2) (p + 1)
theorem costF_eq : ∀ (f n p : Nat), costF f n p = ((placesF f n p).map fun q => tb.getD q 0).sum
  | 0, _, _ => rfl
  | f + 1, n, p => by
    unfold costF placesF
    split
    · rfl
    · split
      · rw [List.map_cons, List.sum_cons, costF_eq f]
      · split
        · rw [List.map_cons, List.sum_cons, costF_eq f]
        · exact costF_eq f _ _
theorem sz_cost (n : Nat) (h : n ≤ 4096) : (toT (n : Int)).size = 1 + costF 13 n 0 := by
  rw [size_toT, costF_eq, placesF_eq 12 n 0 h]
  congr 2
  refine List.map_congr_left fun p hp => ?_
  obtain ⟨x, hx, rfl⟩ := List.mem_map.mp hp
  have := naf_le (m := 12) (by simpa using h) hx
  exact (tb_eq x.2 (by omega)).symm
theorem sz2810 : ∀ p : Nat, p < 2810 → (toT (p : Int)).size ≤ 39 := by
  have h : ∀ p : Nat, p < 2810 → costF 13 p 0 ≤ 38 := by decide +kernel
  intro p hp
  rw [sz_cost p (by omega)]
  have := h p hp
  omega
theorem height_toT : ∀ (d : Nat) (n : Int), n.natAbs < Cb (d + 1) → (toT n).height ≤ d
  | 0, n, h => by
    have : n = 0 := by
      have : n.natAbs < 1 := h
      omega
    subst this
    rw [toT_eq, naf_zero]; exact Nat.le_refl _
  | d + 1, n, h => by
    refine height_le_of fun x hx => ?_
    rw [toL_toT] at hx
    obtain ⟨y, hy, rfl⟩ := List.mem_map.mp hx
    have := height_toT d (y.2 : Int) (by have := Cb_step h (List.mem_reverse.mp hy); simpa using this)
    exact Nat.succ_le_succ this
end Sk
set_option Elab.async false
set_option linter.all false
set_option maxRecDepth 100000
set_option maxHeartbeats 2000000
namespace Sk
theorem wt_add_list : ∀ (l : List (Int × Nat)) (n : Int), (∀ x ∈ l, x.1 = 1 ∨ x.1 = -1) → wt (n + sumP l) ≤ wt n + l.length
  | [], n, _ => by show wt (n + 0) ≤ wt n; rw [Int.add_zero]; exact Nat.le_refl _
  | (s, p) :: r, n, h => by
    have h1 := wt_add_list r (n + s * 2 ^ p) fun x hx => h x (List.mem_cons_of_mem _ hx)
    have h2 := wt_pow p n s (h (s, p) List.mem_cons_self)
    show wt (n + (s * 2 ^ p + sumP r)) ≤ wt n + (r.length + 1)
    rw [← Int.add_assoc]
    omega
theorem wt_add (n c : Int) : wt (n + c) ≤ wt n + wt c := by
  have h := wt_add_list (naf c 0) n fun x hx => naf_sign hx
  rw [naf_sum _ c (Nat.le_refl _) 0] at h
  simpa [wt] using h
theorem wt_mul_pow (h : Int) : ∀ k : Nat, wt (2 ^ k * h) = wt h
  | 0 => by rw [Int.pow_zero, Int.one_mul]
  | k + 1 => by rw [Int.pow_succ, Int.mul_comm (2 ^ k) 2, Int.mul_assoc, wt_dbl, wt_mul_pow h k]
/-- a sum of i signed powers of two, told apart at the place 14 -/
structure PlW (i : Nat) (n : Int) : Prop where
  wt : wt n ≤ i
  big : n.natAbs ≤ i * 2 ^ 2799
  part : ∃ (B r : Int) (j : Nat), n = 16384 * B + r ∧ j ≤ i ∧ Sk.wt B ≤ j ∧ r.natAbs ≤ (i - j) * 8192
theorem PlW.next {i : Nat} {n s : Int} {p : Nat} (h : PlW i n) (hs : s = 1 ∨ s = -1) (hp : p < 2800) : PlW (i + 1) (n + s * 2 ^ p) := by
  have hp2 : 2 ^ p ≤ 2 ^ 2799 := Nat.pow_le_pow_right (by decide) (by omega)
  have hc : ((2 ^ p : Nat) : Int) = (2 : Int) ^ p := by norm_cast
  refine ⟨Nat.le_trans (wt_pow p n s hs) (Nat.succ_le_succ h.wt), ?_, ?_⟩
  · have h1 := h.big
    rw [Nat.succ_mul]
    generalize (2 : Nat) ^ 2799 = X at *
    generalize i * X = Y at *
    rw [← hc]
    generalize (2 : Nat) ^ p = Z at *
    rcases hs with rfl | rfl <;> omega
  · obtain ⟨B, r, j, h1, h2, h3, h4⟩ := h.part
    by_cases hq : 14 ≤ p
    · refine ⟨B + s * 2 ^ (p - 14), r, j + 1, ?_, by omega, Nat.le_trans (wt_pow _ B s hs) (by omega), by rw [Nat.add_sub_add_right]; exact h4⟩
      have e : (2 : Int) ^ p = 16384 * 2 ^ (p - 14) := by
        have : p = 14 + (p - 14) := by omega
        rw [this, Int.pow_add, Nat.add_sub_cancel_left] <;> rfl
      rw [e, h1, Int.mul_add, ← Int.mul_assoc s, Int.mul_comm s, Int.mul_assoc]
      omega
    · refine ⟨B, r + s * 2 ^ p, j, by rw [h1]; omega, by omega, h3, ?_⟩
      have e : 2 ^ p ≤ 2 ^ 13 := Nat.pow_le_pow_right (by decide) (by omega)
      have e2 : (2 : Nat) ^ 13 = 8192 := by decide
      rw [e2] at e
      rw [← hc]
      generalize (2 : Nat) ^ p = Z at *
      rcases hs with rfl | rfl <;> omega
theorem PlW.le {i : Nat} {n : Int} (h : PlW i n) (hi : i ≤ 5) : PlW 5 n := by
  obtain ⟨B, r, j, h1, h2, h3, h4⟩ := h.part
  exact ⟨Nat.le_trans h.wt hi, Nat.le_trans h.big (Nat.mul_le_mul_right _ hi), B, r, j, h1, by omega, h3, by omega⟩
theorem sum_all : ∀ (l : List Nat) (f : Nat → Nat) (m : Nat), (∀ p ∈ l, f p ≤ m) → (l.map f).sum ≤ m * l.length
  | [], _, _, _ => Nat.zero_le _
  | p :: l, f, m, h => by
    have h1 := sum_all l f m fun q hq => h q (List.mem_cons_of_mem _ hq)
    have h2 := h p List.mem_cons_self
    rw [List.map_cons, List.sum_cons, List.length_cons, Nat.mul_succ]
    omega
end Sk
set_option Elab.async false
set_option linter.all false
set_option maxRecDepth 100000
set_option maxHeartbeats 2000000
namespace Sk
open PySem L2 Evl
/-- the terms above stay, those of an integer stand behind -/
theorem plus_can {t : T} {keep : Nat} {v : Int} (h : t.can) (hk : keep = 0 ∨ ∃ s e, t.toL[keep - 1]? = some (s, e) ∧ 0 < keep ∧ (bl v.natAbs : Int) + 2 ≤ e.val) : (ofL (t.toL.take keep ++ (toT v).toL)).can ∧ (ofL (t.toL.take keep ++ (toT v).toL)).val = (ofL (t.toL.take keep)).val + v := by
  refine ⟨can_ofL (fun x hx => ?_) ?_, by rw [val_app, ofL_toL, toT_val]⟩
  · rcases List.mem_append.mp hx with q | q
    · have := List.mem_of_mem_take q
      exact ⟨(can_sign h x this).1, (can_sign h x this).2, can_mem h x this⟩
    · exact ⟨(can_sign (toT_can v) x q).1, (can_sign (toT_can v) x q).2, can_mem (toT_can v) x q⟩
  · refine List.pairwise_append.mpr ⟨(can_gap h).sublist (List.take_sublist _ _), can_gap (toT_can v), fun x hx y hy => ?_⟩
    have hyb : y.2.val ≤ (bl v.natAbs : Int) := by
      rw [toL_toT] at hy
      obtain ⟨z, hz, rfl⟩ := List.mem_map.mp hy
      have := naf_le (n := v) (m := bl v.natAbs) (Nat.le_of_lt (lt_bl _)) (List.mem_reverse.mp hz)
      show (toT (z.2 : Int)).val ≤ _
      rw [toT_val]; omega
    rcases hk with rfl | ⟨s, e, h1, h2, h3⟩
    · rw [List.take_zero] at hx; cases hx
    · obtain ⟨i, hi, rfl⟩ := List.mem_iff_getElem.mp hx
      rw [List.length_take] at hi
      rw [List.getElem_take]
      obtain ⟨h4, h5⟩ := List.getElem?_eq_some_iff.mp h1
      rcases Nat.lt_or_ge i (keep - 1) with q | q
      · have := List.pairwise_iff_getElem.mp (can_gap h) i (keep - 1) (by omega) h4 q
        rw [h5] at this
        have h6 : e.val + 2 ≤ (t.toL[i]'(by omega)).2.val := this
        omega
      · have e1 : i = keep - 1 := by omega
        subst e1
        rw [h5]
        show y.2.val + 2 ≤ e.val
        omega
theorem intBits_abs (i : Int) : Builtin.Int.intBits i = bl i.natAbs := by
  unfold Builtin.Int.intBits bl
  by_cases h : i = 0
  · subst h; rfl
  · rw [if_neg (by simpa using h), if_neg (by omega)]
def pPlus (K : PySem.W.Frag) : V → V → Hp → VP → Prop := fun x y H R => ∃ (t : T) (v : Int) (B : Nat), NumV K H x t ∧ y = .int v ∧ t.can ∧ t.height ≤ 43 ∧ (∀ x ∈ t.toL, x.2.size < 90000) ∧ B + 3 * t.toL.length ≤ 2700 ∧ v.natAbs ≤ 2 ^ B ∧
  R = fun w H' => ∃ u, NumV K H' w u ∧ u.can ∧ u.val = t.val + v ∧ u.size ≤ t.size + 40 * (B + 3 * t.toL.length + 3) ∧ u.height ≤ max t.height 6
def sp_plus_small (K : PySem.W.Frag) : Sp := spF2 (pPlus K)
def t_plus_small (K : PySem.W.Frag) : TS := (tSeq (tIfS (tTest (tOp rEq (tVar 1) (tC (.int 0)))) (tRet (tVar 0)) tNext)
    (tSeq (tAsg (tCB (rLenS K) (tCons (tVar 0) tNil)) (gName 2))
    (tSeq (tWhile (tTest (tOp xGt (tVar 2) (tC (.int 0)))) (tSeq (tAsg (tOp (rIxT K) (tVar 0) (tOp xSub (tVar 2) (tC (.int 1)))) (gTup K 2 (gCons (gName 5) (gCons (gName 6) gNil))))
    (tSeq (tAsg (tOp xAdd (tBits (tVar 1)) (tC (.int 1))) (gName 3))
    (tSeq (tAsg (tCall (sp_value_within K 45) [] E0 (tCons (tVar 6) (tCons (tBits (tVar 3)) tNil))) (gName 4))
    (tSeq (tIfS (tOr (tTest (tOp xIsN (tVar 4) (tC .non))) (tTest (tOp xGt (tVar 4) (tVar 3)))) tBreak tNext)
    (tSeq (tAug 1 (tOp xShl (tVar 5) (tVar 4)) (ipI fun i j => i + j))
    (tAug 2 (tC (.int 1)) (ipI fun i j => i - j))))))))
    (tRet (tOp (rCatA K) (tSl (rSlA K) (tVar 0) tNoPart (tPart (tVar 2))) (tCall (sp_bare_number K 7) [] E0 (tCons (tVar 1) tNil)))))))
section
variable {K : PySem.W.Frag} {σ : L2.St} {H : Hp} {te tf ta : TE}
/-- a + b, both tuples -/
theorem er_catT {P P' : List V → Hp → Prop} (h : ER te σ H (fun v H2 => ∃ p xs, v = .ref p ∧ SqT K H2 p xs ∧ P xs H2)) (m : MonoL P) (h' : ER tf σ H (fun v H2 => ∃ p xs, v = .ref p ∧ SqT K H2 p xs ∧ P' xs H2)) (m' : MonoL P') (hz : ∀ xs ys H1 H2, P xs H1 → P' ys H2 → xs.length + ys.length ≤ 100000) :
    ER (tOp (rCatA K) te tf) σ H (fun v H2 => ∃ p xs ys, v = .ref p ∧ SqT K H2 p (xs ++ ys) ∧ P xs H2 ∧ P' ys H2) := fun H1 e Q q =>
  h H1 e _ fun v H2 e2 ⟨p, xs, hv, h1, h2⟩ => h' H2 (e.trans e2) _ fun w H3 e3 ⟨p', ys, hw, h3, h4⟩ => by
    subst hv hw
    refine ⟨p, p', xs, ys, rfl, rfl, ex_t e3 h1, h3, sz_of (hz _ _ _ _ h2 h4), fun hx => ?_, fun hx hy => ?_, fun hx hy r hr => ?_⟩
    · subst hx
      exact q _ H3 (e2.trans e3) ⟨p', [], ys, rfl, h3, m _ _ _ e3 h2, h4⟩
    · subst hy
      exact q _ H3 (e2.trans e3) ⟨p, xs, [], rfl, by rw [List.append_nil]; exact ex_t e3 h1, m _ _ _ e3 h2, h4⟩
    · exact q _ _ ((e2.trans e3).trans (Ex.new hr)) ⟨r, xs, ys, rfl, st_of upd_same, m _ _ _ (e3.trans (Ex.new hr)) h2, m' _ _ _ (Ex.new hr) h4⟩
end
theorem size_app : ∀ l l' : List (Int × T), (ofL (l ++ l')).size + 1 = (ofL l).size + (ofL l').size
  | [], l' => by show (ofL l').size + 1 = 1 + _; omega
  | (s, e) :: l, l' => by
    have := size_app l l'
    show e.size + (ofL (l ++ l')).size + 1 = e.size + (ofL l).size + _
    omega
theorem height_app : ∀ l l' : List (Int × T), (ofL (l ++ l')).height = max (ofL l).height (ofL l').height
  | [], l' => by show (ofL l').height = max 0 _; omega
  | (s, e) :: l, l' => by
    have := height_app l l'
    show max (e.height + 1) (ofL (l ++ l')).height = max (max (e.height + 1) (ofL l).height) _
    omega
theorem size_take (t : T) (n : Nat) : (ofL (t.toL.take n)).size ≤ t.size := by
  have h := size_app (t.toL.take n) (t.toL.drop n)
  rw [List.take_append_drop, ofL_toL] at h
  have := size_pos (ofL (t.toL.drop n))
  omega
theorem height_take (t : T) (n : Nat) : (ofL (t.toL.take n)).height ≤ t.height := by
  have h := height_app (t.toL.take n) (t.toL.drop n)
  rw [List.take_append_drop, ofL_toL] at h
  omega
theorem size_drop (t : T) (n : Nat) : (ofL (t.toL.drop n)).size ≤ t.size := by
  have h := size_app (t.toL.take n) (t.toL.drop n)
  rw [List.take_append_drop, ofL_toL] at h
  have := size_pos (ofL (t.toL.take n))
  omega
theorem height_drop (t : T) (n : Nat) : (ofL (t.toL.drop n)).height ≤ t.height := by
  have h := height_app (t.toL.take n) (t.toL.drop n)
  rw [List.take_append_drop, ofL_toL] at h
  omega
/-- the size of an integer's number -/
theorem toT_size {n : Int} {k : Nat} (h : n.natAbs ≤ 2 ^ k) (hk : k < 2810) : (toT n).size ≤ 1 + 39 * (k + 1) := by
  rw [size_toT]
  have h1 : ∀ p ∈ ((naf n 0).map (·.2) : List Nat), (toT (p : Int)).size ≤ 39 := by
    intro p hp
    obtain ⟨x, hx, rfl⟩ := List.mem_map.mp hp
    have := naf_le h hx
    exact sz2810 x.2 (by omega)
  have h2 := sum_all ((naf n 0).map (·.2) : List Nat) (fun p => (toT (p : Int)).size) 39 h1
  have h3 := naf_len k n 0 h
  rw [List.length_map] at h2
  have : 39 * (naf n 0).length ≤ 39 * (k + 1) := Nat.mul_le_mul_left _ h3
  omega
theorem pure_plus_small {K : PySem.W.Frag} {vs : List V} {H : Hp} {Q : VK} {E : XK} (h : sp_plus_small K vs H Q E) : t_plus_small K { nx := fun _ H' => Q .non H', rt := Q } (start ["number", "value", "keep", "reach", "place", "sign", "exponent"] vs) H := by
  obtain ⟨x, y, R, rfl, ⟨t, v, B, hx, rfl, hc, hh, hz, hlen, hb, rfl⟩, k⟩ := h
  refine q_when (et_test (ev_eq (ev_var rfl) ev_c rfl)) (fun hv H1 e1 => ?_) (fun hv H1 e1 => ?_)
  · have hv0 : v = 0 := by simpa using hv
    subst hv0
    exact s_ret (ev_var rfl) fun H2 e2 => k _ _ (e1.trans e2) ⟨t, hx.ex (e1.trans e2), hc, by omega, by omega, by omega⟩
  have hx0 := hx
  obtain ⟨a, xs, rfl, hs, ht⟩ := hx.out
  have hl : xs.length = t.toL.length := ht.len
  refine q_asg (ev_lenT (ev_var rfl) (ex_t e1 hs)) fun H2 e2 => ?_
  have fin : ∀ (H' : Hp) (σ : L2.St) (keep : Nat) (v' : Int) (z3 z4 z5 z6 : Option V), σ = [some (.ref a), some (.int v'), some (.int (keep : Int)), z3, z4, z5, z6] → Ex H H' → v'.natAbs ≤ 2 ^ (B + 3 * t.toL.length) → (ofL (t.toL.take keep)).val + v' = t.val + v → (keep = 0 ∨ ∃ s e, t.toL[keep - 1]? = some (s, e) ∧ 0 < keep ∧ (bl v'.natAbs : Int) + 2 ≤ e.val) →
      tRet (tOp (rCatA K) (tSl (rSlA K) (tVar 0) tNoPart (tPart (tVar 2))) (tCall (sp_bare_number K 7) [] E0 (tCons (tVar 1) tNil))) { nx := fun _ H' => Q .non H', rt := Q } σ H' := by
    rintro H' σ keep v' z3 z4 z5 z6 rfl e hv' hval hk
    have hv6 : v'.natAbs < 2 ^ 2701 := Nat.lt_of_le_of_lt hv' (Nat.pow_lt_pow_right (by decide) (by omega))
    refine s_retR (er_catT (P := fun xs' H2 => ItemsR (TermI K) (t.toL.take keep) xs' H2) (P' := fun ys H2 => ItemsR (TermI K) (toT v').toL ys H2) ((er_upTo (ev_var rfl) (ex_t e hs) (ev_var rfl)).imp fun v H3 e3 ⟨q, g1, g2⟩ => ⟨q, _, g1, g2, ((items_terms ht).ex (fun x => termIm) (e.trans e3)).take keep⟩) (fun ys Ha Hb e h => h.ex (fun x => termIm) e)
      ((er_call1 (R1 := fun v _ => v = .int v') (er_is (ev_var rfl)) monoC fun v H3 e3 hv => ⟨v', hv, lt_Cb7 (k := 2701) hv6 (by decide), by decide, rfl⟩).imp fun v H3 e3 h => by
        obtain ⟨b, ys, g1, g2, g3⟩ := h.out
        exact ⟨b, ys, g1, g2, items_terms g3⟩) (fun ys Ha Hb e h => h.ex (fun x => termIm) e) (fun xs' ys Ha Hb g1 g2 => by
        have l1 := g1.1
        have l2 := g2.1
        rw [List.length_take] at l1
        have l3 := toT_len (n := v') (k := 2701) (Nat.le_of_lt hv6)
        omega)) fun w H3 e3 ⟨p, xs', ys, hw, g1, g2, g3⟩ => k _ _ (e.trans e3) ?_
    obtain ⟨c1, c2⟩ := plus_can hc hk
    have s1 := size_app (t.toL.take keep) (toT v').toL
    have s2 := size_take t keep
    have s3 := toT_size (n := v') hv' (by omega)
    have s4 := height_app (t.toL.take keep) (toT v').toL
    have s5 := height_take t keep
    have s6 := height_toT 6 v' (lt_Cb7 (k := 2701) hv6 (by decide))
    rw [ofL_toL] at s1 s4
    exact ⟨_, by rw [hw]; exact NumV.mk g1 (terms_items (g2.append g3)), c1, by rw [c2]; exact hval, by omega, by omega⟩
  refine q_while' (fun m σ H' => ∃ (keep : Nat) (v' : Int) (z3 z4 z5 z6 : Option V), σ = [some (.ref a), some (.int v'), some (.int (keep : Int)), z3, z4, z5, z6] ∧ m = keep ∧ keep ≤ t.toL.length ∧ Ex H H' ∧ v'.natAbs ≤ 2 ^ (B + 3 * (t.toL.length - keep)) ∧ (ofL (t.toL.take keep)).val + v' = t.val + v) t.toL.length
    ⟨t.toL.length, v, none, none, none, none, by rw [← hl]; rfl, rfl, Nat.le_refl _, e1.trans e2, by rw [Nat.sub_self]; exact hb, by rw [List.take_length, ofL_toL]⟩ ?_
  rintro keep σ H3 ⟨_, v', z3, z4, z5, z6, rfl, rfl, hkl, e3, hv', hval⟩
  have hv6 : v'.natAbs ≤ 2 ^ (B + 3 * t.toL.length) := Nat.le_trans hv' (Nat.pow_le_pow_right (by decide) (by omega))
  have hv7 : v'.natAbs < 2 ^ 2701 := Nat.lt_of_le_of_lt hv6 (Nat.pow_lt_pow_right (by decide) (by omega))
  refine ⟨decide ((0 : Int) < (keep : Int)), et_test (ev_gt (ev_var rfl) ev_c), fun hk H4 e4 => ?_, fun hk H4 e4 => ?_⟩
  · have hk0 : 0 < keep := by have := of_decide_eq_true hk; omega
    obtain ⟨j, rfl⟩ : ∃ j, keep = j + 1 := ⟨keep - 1, by omega⟩
    obtain ⟨⟨s, e⟩, hget⟩ : ∃ a, t.toL[j]? = some a := ⟨_, List.getElem?_eq_getElem (by omega)⟩
    have hit := (items_terms ht).ex (fun x => termIm) (e3.trans e4)
    obtain ⟨zx, hzx, q, w, hzq, hq, hw⟩ := hit.at hget
    subst hzq
    have hmem := List.mem_of_getElem? hget
    have hsg := (can_sign hc _ hmem)
    have hsg1 : s = 1 ∨ s = -1 := hsg.1
    have he0 : 0 ≤ e.val := hsg.2
    have hec := can_mem hc _ hmem
    have hms : e.size < t.size ∧ e.height < t.height := mem_size hmem
    refine q_unpack2 (R := fun v _ => v = .ref q) (er_is (ev_atT (k := (((j + 1 : Nat) : Int) - 1)) (ev_var rfl) (ev_sub (ev_var rfl) ev_c) (ex_t (e3.trans e4) hs) (by
      have : ((j + 1 : Nat) : Int) - 1 = (j : Int) := by omega
      rw [this]
      exact atI_nat hzx))) fun v H5 e5 hv => ⟨q, .int s, w, hv, ex_t e5 hq, ?_⟩
    refine q_asg (ev_add (ev_is (ev_bits (ev_var rfl)) (by rw [intBits_abs])) ev_c) fun H6 e6 => ?_
    refine q_asgR (R := fun u _ => u = optV (e.within (bl (bl v'.natAbs + 1)))) (er_call2 (R1 := fun v H => NumV K H v e) (R2 := fun u _ => u = .int (bl (bl v'.natAbs + 1) : Nat)) (er_var rfl fun H7 e7 => hw.ex (e5.trans (e6.trans e7))) numT.mono (er_is (ev_is (ev_bits (ev_var rfl)) (by rw [← intBits_bl]; rfl))) monoC fun u u' H7 e7 g1 g2 => ⟨e, _, g1, g2, nn_of_can hec (by have := hz _ hmem; have h' : e.size < 90000 := this; omega), by omega, ?_, by have := len_size e; have := hz _ hmem; have h' : e.size < 90000 := this; omega, rfl⟩) fun u H7 e7 hu => ?_
    · have h1 := bl_le (bl v'.natAbs + 1)
      have h2 : bl v'.natAbs ≤ 2701 := by
        rw [← intBits_abs]
        exact (intBits_le_iff v' 2701).mpr hv7
      omega
    subst hu
    have e37 := e4.trans (e5.trans (e6.trans e7))
    have brk : (bl v'.natAbs : Int) + 2 ≤ e.val → j + 1 = 0 ∨ ∃ s e, t.toL[j + 1 - 1]? = some (s, e) ∧ 0 < j + 1 ∧ (bl v'.natAbs : Int) + 2 ≤ e.val := fun h => .inr ⟨s, e, hget, by omega, h⟩
    cases hwi : e.within (bl (bl v'.natAbs + 1)) with
    | none =>
      refine q_when (b := true) (et_or (a := true) (b := false) (et_test (ev_is (ev_isN (ev_var rfl)) rfl)) (fun h => by cases h)) (fun _ H8 e8 => ?_) (fun h => by cases h)
      have hn : 2 ^ bl (bl v'.natAbs + 1) < e.val.natAbs := can_none hec hwi
      have h1 := lt_bl (bl v'.natAbs + 1)
      exact fin H8 _ (j + 1) v' _ _ _ _ rfl (e3.trans (e37.trans e8)) hv6 hval (brk (by omega))
    | some p =>
      have hpv := within_val _ _ _ hwi
      refine q_when (b := decide ((bl v'.natAbs : Int) + 1 < p)) (et_is (et_or (a := false) (et_test (ev_is (ev_isN (ev_var rfl)) rfl)) fun _ => et_test (ev_gt (ev_var rfl) (ev_var rfl))) (Bool.false_or _)) (fun hb1 H8 e8 => ?_) (fun hb1 H8 e8 => ?_)
      · have := of_decide_eq_true hb1
        exact fin H8 _ (j + 1) v' _ _ _ _ rfl (e3.trans (e37.trans e8)) hv6 hval (brk (by omega))
      · have hle := of_decide_eq_false hb1
        refine q_aug (a := v') (b := s * 2 ^ p.toNat) rfl (ev_shl (ev_var rfl) (ev_var rfl) ⟨by omega, by
          have h2 : bl v'.natAbs ≤ 2701 := by
            rw [← intBits_abs]
            exact (intBits_le_iff v' 2701).mpr hv7
          omega, by rcases hsg1 with rfl | rfl <;> decide⟩) fun H9 e9 => ?_
        refine s_aug (a := ((j + 1 : Nat) : Int)) (b := 1) rfl ev_c fun H10 e10 => ?_
        refine ⟨j, by omega, j, v' + s * 2 ^ p.toNat, _, _, _, _, by
          have : ((j + 1 : Nat) : Int) - 1 = (j : Int) := by omega
          rw [this]; rfl, rfl, by omega, e3.trans (e37.trans (e8.trans (e9.trans e10))), ?_, ?_⟩
        · have hbl : bl v'.natAbs ≤ B + 3 * (t.toL.length - (j + 1)) + 1 := by
            rw [← intBits_abs]
            exact (intBits_le_iff v' _).mpr (Nat.lt_of_le_of_lt hv' (Nat.pow_lt_pow_right (by decide) (by omega)))
          have hp2 : 2 ^ p.toNat ≤ 2 ^ (B + 3 * (t.toL.length - (j + 1)) + 2) := Nat.pow_le_pow_right (by decide) (by omega)
          have e11 : B + 3 * (t.toL.length - j) = B + 3 * (t.toL.length - (j + 1)) + 3 := by omega
          rw [e11]
          generalize B + 3 * (t.toL.length - (j + 1)) = B' at *
          have hB : 0 < 2 ^ B' := Nat.two_pow_pos B'
          rw [Nat.pow_add] at hp2 ⊢
          have h8 : (2 : Nat) ^ 3 = 8 := by decide
          have h4 : (2 : Nat) ^ 2 = 4 := by decide
          rw [h8]
          rw [h4] at hp2
          have habs : (s * 2 ^ p.toNat).natAbs = 2 ^ p.toNat := by
            rw [Int.natAbs_mul, Int.natAbs_pow]
            rcases hsg1 with rfl | rfl <;> simp
          have := Int.natAbs_add_le v' (s * 2 ^ p.toNat)
          omega
        · rw [take_step hget, ← hpv] at hval
          omega
  · have hk0 : keep = 0 := by
      have := of_decide_eq_false hk
      omega
    exact fin H4 _ keep v' _ _ _ _ rfl (e3.trans e4) hv6 hval (.inl hk0)
end Sk
set_option Elab.async false
set_option linter.all false
set_option maxRecDepth 100000
set_option maxHeartbeats 2000000
namespace Sk
open PySem L2 Evl
inductive Rows : Nat → List (Nat × Nat × Nat) → Prop
  | one : Rows 1 []
  | cons {m n l : Nat} {rs : List (Nat × Nat × Nat)} : 1 < m → m ≤ 10000 → IsRow m n l → Rows (n - l) rs → Rows m ((m, n, l) :: rs)
/-- a number in its form, short enough for the machine -/
structure T.ok (t : T) : Prop where
  can : t.can
  nn : t.nn
  len : t.toL.length < 100000
theorem can_toL : ∀ {t : T}, t.can → ∀ x ∈ t.toL, (x.1 = 1 ∨ x.1 = -1) ∧ 0 ≤ x.2.val ∧ x.2.can
  | .nil, _, x, hx => by cases hx
  | .cons s e r, h, x, hx => by
    rcases List.mem_cons.mp hx with rfl | hx
    · exact ⟨h.1.1, h.1.2.1, h.2.1⟩
    · exact can_toL h.2.2 x hx
theorem T.ok.mem {t : T} (h : t.ok) {x : Int × T} (hx : x ∈ t.toL) : (x.1 = 1 ∨ x.1 = -1) ∧ 0 ≤ x.2.val ∧ x.2.ok :=
  ⟨(can_toL h.can x hx).1, (can_toL h.can x hx).2.1, (can_toL h.can x hx).2.2, (nn_toL h.nn x hx).2, (nn_toL h.nn x hx).1.2.2.1⟩
/-- the modulus at a place of the rows -/
def modAt : List (Nat × Nat × Nat) → Nat
  | [] => 1
  | (m, _, _) :: _ => m
theorem Rows.mod {m : Nat} {rs : List (Nat × Nat × Nat)} (h : Rows m rs) : m = modAt rs := by cases h <;> rfl
theorem q_unpack3 {K : PySem.W.Frag} {σ : L2.St} {H : Hp} {te : TE} {R : VP} {D : Ends} {tz : TS} {i j l : Nat} (h : ER te σ H R) (hR : ∀ v H1, Ex H H1 → R v H1 → ∃ a x y z, v = .ref a ∧ SqT K H1 a [x, y, z] ∧ tz D (((σ.set i (some x)).set j (some y)).set l (some z)) H1) :
    tSeq (tAsg te (gTup K 3 (gCons (gName i) (gCons (gName j) (gCons (gName l) gNil))))) tz D σ H := h H (Ex.refl H) _ fun v H1 e r => by
  obtain ⟨a, x, y, z, rfl, hs, q⟩ := hR v H1 e r
  exact g_trip (Q := fun σ' H' => tz D σ' H') hs q
end Sk
set_option Elab.async false
set_option linter.all false
set_option maxRecDepth 100000
set_option maxHeartbeats 2000000
set_option Elab.async false
set_option linter.all false
set_option maxRecDepth 100000
set_option maxHeartbeats 2000000
namespace Sk
open PySem L2 Evl
section
variable {K : PySem.W.Frag} {σ : L2.St} {H : Hp} {ta tb : TE} {tx : TA}
/-- [a, b, ..][k] -/
theorem ev_pickL {xs : List V} {k : Nat} {v : V} (h : EvA tx σ H xs) (hz : xs.length ≤ 1000) (hk : Ev tb σ H (.int (k : Int))) (hv : xs[k]? = some v) : Ev (tOp (rIxL K) (tLst tx) tb) σ H v :=
  ev_opL1 (el_lst h (by omega)) (fun H1 e => hk.mono e) fun p H1 hp e => rv_ixL (sq_of hp) (atI_nat hv)
theorem ints_at {l : List Int} {i : Nat} (h : i < l.length) : atI (l.map V.int) (i : Int) = some (.int (l.getD i 0)) := by
  refine atI_nat ?_
  rw [List.getElem?_map, List.getElem?_eq_getElem h, List.getD_eq_getElem?_getD, List.getElem?_eq_getElem h] <;> rfl
theorem getD_mem {l : List Int} {i : Nat} (h : i < l.length) : l.getD i 0 ∈ l := by
  rw [List.getD_eq_getElem?_getD, List.getElem?_eq_getElem h]
  exact List.getElem_mem h
theorem ev_ints {a : Addr} {l : List Int} {i : Nat} {k : Int} (ho : Ev ta σ H (.ref a)) (hi : Ev tb σ H (.int k)) (hk : k = (i : Int)) (hs : SqL K H a (l.map V.int)) (h : i < l.length) : Ev (tOp (rIxL K) ta tb) σ H (.int (l.getD i 0)) :=
  ev_at ho hi hs (by rw [hk]; exact ints_at h)
end
/-- a list of ints -/
def IntsL (l : List Int) : VP := fun v H => ∃ p, v = .ref p ∧ H p = some (.lst (l.map V.int))
theorem intsL (l : List Int) : Mono (IntsL l) := fun v H H' e ⟨p, h1, h2⟩ => ⟨p, h1, e p _ h2⟩
/-- so many numbers, each from 0 to 999 -/
def Drawn (n : Nat) : VP := fun v H => ∃ l : List Int, l.length = n ∧ (∀ x ∈ l, 0 ≤ x ∧ x < 1000) ∧ IntsL l v H
theorem drawn (n : Nat) : Mono (Drawn n) := fun v H H' e ⟨l, h1, h2, h3⟩ => ⟨l, h1, h2, intsL l _ _ _ e h3⟩
end Sk
set_option Elab.async false
set_option linter.all false
set_option maxRecDepth 100000
set_option maxHeartbeats 2000000
namespace Sk
open PySem L2 Evl
theorem cut_map {l : List Int} {n : Nat} : cutV (l.map V.int) none (some (n : Int)) = (l.take n).map V.int := by
  unfold cutV HT.sIx
  simp only [List.drop_zero, Nat.sub_zero]
  rw [if_neg (by omega), Int.toNat_natCast, List.map_take, List.length_map]
  rcases Nat.le_total n l.length with h | h
  · rw [Nat.min_eq_left h]
  · rw [Nat.min_eq_right h, List.take_of_length_le (by rw [List.length_map]; exact Nat.le_refl _), List.take_of_length_le (by rw [List.length_map]; exact h)]
end Sk
set_option Elab.async false
set_option linter.all false
set_option maxRecDepth 100000
set_option maxHeartbeats 2000000
namespace Sk
open PySem L2 Evl
theorem naf_ne {n : Int} {p : Nat} (h : n ≠ 0) : naf n p ≠ [] := fun z => by
  have := naf_sum _ n (Nat.le_refl _) p
  rw [z] at this
  have h1 : n * 2 ^ p = 0 := this.symm
  have h2 : (2 : Int) ^ p > 0 := Int.pow_pos (by decide)
  rcases Int.mul_eq_zero.mp h1 with h | h
  · contradiction
  · omega
end Sk
set_option Elab.async false
set_option linter.all false
set_option maxRecDepth 100000
set_option maxHeartbeats 2000000
set_option Elab.async false
set_option linter.all false
set_option maxRecDepth 100000
set_option maxHeartbeats 2000000
namespace Sk
open PySem L2 Evl
/-- what stands at the next exponent, if it is the very next -/
def nextC (ws : List Nat) (cf : Nat → Int) (at' ex : Nat) : Int := if ws[at']? = some ex then cf ex else 0
def restA (ws : List Nat) (cf : Nat → Int) (k : Nat) : Nat := ((ws.drop k).map fun w => (cf w).natAbs + 2).sum
def restV (ws : List Nat) (cf : Nat → Int) (k : Nat) : Int := ((ws.drop k).map fun w => cf w * 2 ^ w).sum
/-- ahead of a turn -/
structure RowsI (ws : List Nat) (cf : Nat → Int) (V : Int) (P M i at' ex : Nat) (c : Int) (rows : List (Int × Nat)) : Prop where
  le : at' ≤ ws.length
  up : ∀ j w, at' ≤ j → ws[j]? = some w → ex ≤ w
  gap : rows.Pairwise (fun x y => x.2 + 2 ≤ y.2)
  sg : ∀ x ∈ rows, x.1 = 1 ∨ x.1 = -1
  last : ∀ x ∈ rows, x.2 + 2 ≤ ex ∨ (x.2 + 1 = ex ∧ (c + nextC ws cf at' ex) % 2 = 0)
  val : sumP rows + c * 2 ^ ex + restV ws cf at' = V
  pot : 2 * (restA ws cf at' + c.natAbs) + (if ws[at']? = some ex then 0 else 1) + i ≤ P
  ht : ex ≤ M + i
  len : rows.length ≤ i
/-- within a turn, behind the next count was taken -/
structure RowsM (ws : List Nat) (cf : Nat → Int) (V : Int) (P M i at' ex : Nat) (c : Int) (rows : List (Int × Nat)) : Prop where
  le : at' ≤ ws.length
  up : ∀ j w, at' ≤ j → ws[j]? = some w → ex + 1 ≤ w
  gap : rows.Pairwise (fun x y => x.2 + 2 ≤ y.2)
  sg : ∀ x ∈ rows, x.1 = 1 ∨ x.1 = -1
  last : ∀ x ∈ rows, x.2 + 2 ≤ ex ∨ (x.2 + 1 = ex ∧ c % 2 = 0)
  val : sumP rows + c * 2 ^ ex + restV ws cf at' = V
  pot : 2 * (restA ws cf at' + c.natAbs) + 4 + i ≤ P ∨ (2 * (restA ws cf at' + c.natAbs) + 1 + i ≤ P ∧ c ≠ 0)
  ht : ex ≤ M + i
  len : rows.length ≤ i
section
variable {ws : List Nat} {cf : Nat → Int} {V c : Int} {P M i at' ex : Nat} {rows : List (Int × Nat)}
theorem restV_step {w : Nat} (h : ws[at']? = some w) : restV ws cf at' = cf w * 2 ^ w + restV ws cf (at' + 1) := by
  obtain ⟨h1, h2⟩ := List.getElem?_eq_some_iff.mp h
  unfold restV
  rw [List.drop_eq_getElem_cons h1, List.map_cons, List.sum_cons, h2]
theorem restA_step {w : Nat} (h : ws[at']? = some w) : restA ws cf at' = (cf w).natAbs + 2 + restA ws cf (at' + 1) := by
  obtain ⟨h1, h2⟩ := List.getElem?_eq_some_iff.mp h
  unfold restA
  rw [List.drop_eq_getElem_cons h1, List.map_cons, List.sum_cons, h2]
/-- the next count is taken -/
theorem RowsI.take (h : RowsI ws cf V P M i at' ex c rows) {w : Nat} (hw : ws[at']? = some w) (hs : ws.Pairwise (· < ·)) (hM : w ≤ M) (hc : c = 0 ∨ w = ex) : RowsM ws cf V P M i (at' + 1) w (c + cf w) rows := by
  obtain ⟨h1, h2⟩ := List.getElem?_eq_some_iff.mp hw
  have hge := h.up at' w (Nat.le_refl _) hw
  have hmul := restA_step (cf := cf) hw
  have hp := h.pot
  refine ⟨h1, fun j v hj hv => ?_, h.gap, h.sg, fun x hx => ?_, ?_, .inl ?_, by omega, h.len⟩
  · obtain ⟨h3, h4⟩ := List.getElem?_eq_some_iff.mp hv
    have := List.pairwise_iff_getElem.mp hs at' j h1 h3 (by omega)
    omega
  · rcases h.last x hx with q | ⟨q1, q2⟩
    · exact .inl (by omega)
    · by_cases e : w = ex
      · subst e
        refine .inr ⟨q1, ?_⟩
        unfold nextC at q2
        rw [if_pos hw] at q2
        exact q2
      · exact .inl (by omega)
  · have hv := h.val
    rw [restV_step hw] at hv
    rcases hc with rfl | rfl
    · rw [Int.zero_mul] at hv
      rw [Int.zero_add]
      omega
    · rw [Int.add_mul]
      omega
  · rw [hmul] at hp
    generalize restA ws cf (at' + 1) = A at *
    split at hp <;> omega
/-- nothing waits -/
theorem RowsI.done (h : RowsI ws cf V P M i ws.length ex 0 rows) : sumP rows = V := by
  have := h.val
  unfold restV at this
  rw [List.drop_length] at this
  simp at this
  exact this
end
end Sk
set_option Elab.async false
set_option linter.all false
set_option maxRecDepth 100000
set_option maxHeartbeats 2000000
namespace Sk
open PySem L2 Evl
section
variable {K : PySem.W.Frag} {σ : L2.St} {H : Hp} {tn ta tm : TE}
theorem er_var' {R : VP} {i : Nat} {v : V} (h : σ[i]? = some (some v)) (hR : R v H) (m : Mono R) : ER (tVar i) σ H R := er_var h fun H1 e => m _ _ _ e hR
end
end Sk
set_option Elab.async false
set_option linter.all false
set_option maxRecDepth 100000
set_option maxHeartbeats 1000000
set_option Elab.async false
set_option linter.all false
set_option maxRecDepth 100000
set_option maxHeartbeats 2000000
set_option Elab.async false
set_option linter.all false
set_option maxRecDepth 100000
set_option maxHeartbeats 2000000
namespace Sk
open PySem L2 Evl
theorem gap_len : ∀ (l : List (Int × Nat)) (p m : Nat), l.Pairwise (fun x y => x.2 + 2 ≤ y.2) → (∀ x ∈ l, p ≤ x.2 ∧ x.2 ≤ m) → 2 * l.length ≤ m + 2 - p
  | [], p, m, _, _ => Nat.zero_le _
  | [x], p, m, _, h => by
    have := h x List.mem_cons_self
    show 2 * 1 ≤ _
    omega
  | x :: y :: l, p, m, hg, h => by
    have hg' := List.pairwise_cons.mp hg
    have hx := h x List.mem_cons_self
    have ih := gap_len (y :: l) (x.2 + 2) m hg'.2 fun z hz => ⟨hg'.1 z hz, (h z (List.mem_cons_of_mem _ hz)).2⟩
    have hy := hg'.1 y List.mem_cons_self
    have hy2 := (h y (List.mem_cons_of_mem _ List.mem_cons_self)).2
    rw [List.length_cons]
    omega
theorem sz128 : ∀ p : Nat, p < 128 → (toT (p : Int)).size ≤ 20 := by
  have h : ∀ p : Nat, p < 128 → costF 13 p 0 ≤ 19 := by decide +kernel
  intro p hp
  rw [sz_cost p (by omega)]
  have := h p hp
  omega
end Sk
set_option Elab.async false
set_option linter.all false
set_option maxRecDepth 100000
set_option maxHeartbeats 2000000
namespace Sk
open PySem L2 Evl
/-- signs are small (and lists not too long for the machine) -/
def T.sm : T → Prop
  | .nil => True
  | .cons s e r => (s.natAbs ≤ 3 ∧ e.toL.length < 100000) ∧ e.sm ∧ r.sm
end Sk
set_option Elab.async false
set_option linter.all false
set_option maxRecDepth 100000
set_option maxHeartbeats 2000000
namespace Sk
open PySem L2 Evl
theorem ev_signIn {K : PySem.W.Frag} {σ : L2.St} {H : Hp} {i : Nat} {s : Int} (h : σ[i]? = some (some (.int s))) : Ev (tOp (rIn K true) (tVar i) (tTup (tCons (tC (.int 1)) (tCons (tUn xNeg (tC (.int 1))) tNil)))) σ H (.bl (!decide (s = 1 ∨ s = -1))) := by
  refine fun H1 e1 Q q => (ev_var h) H1 (e1) _ fun H2 e2 => ?_
  refine eu_tup (ea_cons ev_c (ea_cons (ev_neg ev_c) ea_nil)) (by show 2 ≤ 100000; omega) H2 (Ex.refl _) _ fun p H3 hp e3 h3 => ?_
  refine rv_niT (st_of h3) rfl rfl H3 (Ex.refl _) _ fun H4 e4 => ?_
  have : inV (V.int s) [V.int 1, V.int (-1)] = decide (s = 1 ∨ s = -1) := by
    show ((1 : Int) == s || ((-1 : Int) == s || false)) = _
    rw [Bool.eq_iff_iff]
    simp
    omega
  rw [this]
  exact q H4 (e2.trans (e3.trans e4))
end Sk
set_option Elab.async false
set_option linter.all false
set_option maxRecDepth 100000
set_option maxHeartbeats 2000000
namespace Sk
open PySem L2 Evl
def rInsert : V → List V → Hp → VK → Prop := fun x vs H Q => ∃ (l : Addr) (xs : List V) (i : Int) (y : V), x = V.ref l ∧ vs = [V.int i, y] ∧ H l = some (HO.lst xs) ∧ xs.length < PySem.sizeLine ∧ 0 ≤ i ∧ i < 2 ^ 63 ∧ Q V.non (upd H l (HO.lst (List.take i.toNat xs ++ [y] ++ List.drop i.toNat xs)))
def xListOf (K : PySem.W.Frag) : List V → Hp → VK → Prop := fun xs H Q => ∃ (p : Addr) (ys : List V), xs = [V.ref p] ∧ (SqL K H p ys ∨ SqT K H p ys) ∧ ∀ (l : Addr), H l = none → Q (V.ref l) (upd H l (HO.lst ys))
/-- a term that may stand in a spoilt number -/
structure TermOk (x : Int × T) : Prop where
  sg : x.1.natAbs ≤ 3
  sm : x.2.sm
  ht : x.2.height ≤ 7
  sz : x.2.size ≤ 60
  le : x.2.can → x.2.val ≤ 400
structure Spo (l : List (Int × T)) : Prop where
  ok : ∀ x ∈ l, TermOk x
  sz : (l.map fun x => x.2.size).sum ≤ 250
theorem sum_set (l : List (Int × T)) (i : Nat) (a : Int × T) : ((l.set i a).map fun x => x.2.size).sum ≤ (l.map fun x => x.2.size).sum + a.2.size := by
  induction l generalizing i with
  | nil => exact Nat.zero_le _
  | cons x l ih =>
    cases i with
    | zero => rw [List.set_cons_zero, List.map_cons, List.map_cons, List.sum_cons, List.sum_cons]; omega
    | succ i =>
      rw [List.set_cons_succ, List.map_cons, List.map_cons, List.sum_cons, List.sum_cons]
      have := ih i
      omega
theorem sum_ins (l : List (Int × T)) (n : Nat) (a : Int × T) : ((l.take n ++ [a] ++ l.drop n).map fun x => x.2.size).sum = (l.map fun x => x.2.size).sum + a.2.size := by
  have h : (l.map fun x => x.2.size).sum = ((l.take n).map fun x => x.2.size).sum + ((l.drop n).map fun x => x.2.size).sum := by
    rw [← List.sum_append, ← List.map_append, List.take_append_drop]
  rw [h, List.map_append, List.map_append, List.sum_append, List.sum_append, List.map_cons, List.sum_cons]
  show _ + (a.2.size + 0) + _ = _
  omega
section
variable {l : List (Int × T)} {a : Int × T}
theorem Spo.set (h : ∀ x ∈ l, TermOk x) (hs : (l.map fun x => x.2.size).sum ≤ 190) (ha : TermOk a) (i : Nat) : Spo (l.set i a) := by
  refine ⟨fun x hx => ?_, ?_⟩
  · rcases List.mem_or_eq_of_mem_set hx with q | q
    · exact h x q
    · rw [q]; exact ha
  · have h1 := sum_set l i a
    have h2 := ha.sz
    omega
theorem Spo.ins (h : ∀ x ∈ l, TermOk x) (hs : (l.map fun x => x.2.size).sum ≤ 190) (ha : TermOk a) (n : Nat) : Spo (l.take n ++ [a] ++ l.drop n) := by
  refine ⟨fun x hx => ?_, ?_⟩
  · rcases List.mem_append.mp hx with q | q
    · rcases List.mem_append.mp q with q | q
      · exact h x (List.mem_of_mem_take q)
      · rw [List.mem_singleton.mp q]; exact ha
    · exact h x (List.mem_of_mem_drop q)
  · rw [sum_ins]
    have h2 := ha.sz
    omega
theorem Spo.rev (h : ∀ x ∈ l, TermOk x) (hs : (l.map fun x => x.2.size).sum ≤ 190) : Spo l.reverse := by
  refine ⟨fun x hx => h x (List.mem_reverse.mp hx), ?_⟩
  rw [List.map_reverse, List.sum_reverse]
  omega
end
section
variable {K : PySem.W.Frag} {σ : L2.St} {H : Hp} {te tf ta tb : TE} {D : Ends}
/-- rows[at][1], rows[at][0] -/
theorem ev_rowE {p : Addr} {ys : List V} {i : Nat} {q : Addr} {s : Int} {w : V} (h : Ev ta σ H (.ref p)) (hi : Ev tb σ H (.int (i : Int))) (hp : H p = some (.lst ys)) (hy : ys[i]? = some (.ref q)) (hq : SqT K H q [.int s, w]) : Ev (tOp (rIxT K) (tOp (rIxL K) ta tb) (tC (.int 1))) σ H w := ev_atT (ev_at h hi (sq_of hp) (atI_nat hy)) ev_c hq rfl
theorem ev_rowS {p : Addr} {ys : List V} {i : Nat} {q : Addr} {s : Int} {w : V} (h : Ev ta σ H (.ref p)) (hi : Ev tb σ H (.int (i : Int))) (hp : H p = some (.lst ys)) (hy : ys[i]? = some (.ref q)) (hq : SqT K H q [.int s, w]) : Ev (tOp (rIxT K) (tOp (rIxL K) ta tb) (tC (.int 0))) σ H (.int s) := ev_atT (ev_at h hi (sq_of hp) (atI_nat hy)) ev_c hq rfl
theorem s_setR {R : VP} {l : Addr} {xs : List V} {j : Nat} (hl : H l = some (.lst xs)) (h : ER te σ H R) (ha : Ev ta σ H (.ref l)) (hb : Ev tb σ H (.int (j : Int))) (hj : j < xs.length) (m : Mono R) (k : ∀ v H1, Ex H H1 → R v H1 → D.nx σ (upd H1 l (.lst (xs.set j v)))) : tAsg te (gSub ta tb rSetL) D σ H :=
  h H (Ex.refl H) _ fun v H1 e1 r => ha H1 e1 _ fun H2 e2 => hb H2 (e1.trans e2) _ fun H3 e3 => ⟨l, xs, _, j, rfl, rfl, (e1.trans (e2.trans e3)) l _ hl, ixN_nat hj, k v H3 (e1.trans (e2.trans e3)) (m v _ _ (e2.trans e3) r)⟩
end
end Sk
set_option Elab.async false
set_option linter.all false
set_option maxRecDepth 100000
set_option maxHeartbeats 2000000
namespace Sk
open PySem L2 Evl
noncomputable def canB (t : T) : Bool := @decide t.can (Classical.propDecidable _)
theorem canB_iff {t : T} : canB t = true ↔ t.can := @decide_eq_true_iff _ (Classical.propDecidable _)
def pHasForm (K : PySem.W.Frag) (d : Nat) : V → Hp → VP → Prop := fun x H R => ∃ t : T, NumV K H x t ∧ t.height < d ∧ t.height ≤ 40 ∧ t.size ≤ 300 ∧ R = fun v _ => v = .bl (canB t)
def sp_has_form (K : PySem.W.Frag) (d : Nat) : Sp := spF1 (pHasForm K d)
def pCheck (K : PySem.W.Frag) (CN : Addr) : V → Hp → VP → WP → Prop := fun x H R W => ∃ t : T, NumV K H x t ∧ t.szk ∧ (t.fits ∧ t.can → ∀ H', R .non H') ∧ (¬ (t.fits ∧ t.can) → W CN)
def sp_check_number (K : PySem.W.Frag) (CN : Addr) : Sp := spX1 K (pCheck K CN)
def t_check_number (K : PySem.W.Frag) (a_NotAllowed : Addr) (E : XK) : TS := (tIfS (tOr (tNot (tB (tCall (sp_is_allowed K) [] E0 (tCons (tVar 0) tNil)))) (tNot (tB (tCall (sp_has_form K 45) [] E0 (tCons (tVar 0) tNil))))) (tRaise K E a_NotAllowed) tNext)
theorem pure_check_number {K : PySem.W.Frag} {CN : Addr} {vs : List V} {H : Hp} {Q : VK} {E : XK} (h : sp_check_number K CN vs H Q E) : t_check_number K CN E { nx := fun _ H' => Q .non H', rt := Q } (start ["number"] vs) H := by
  obtain ⟨x, R, W, rfl, ⟨t, hx, hsz, hR, hW⟩, k, kx⟩ := h
  refine s_when (b := !decide t.fits || !canB t) (et_is (et_or (a := !decide t.fits) (b := !decide t.fits || !canB t) (et_not (et_B (ev_er (er_call1 (R1 := fun v H => NumV K H v t) (er_var rfl fun H1 e1 => hx.ex e1) numT.mono fun v H1 e1 h1 => ⟨t, h1, hsz, rfl⟩)))) fun hf => ?_) ?_) (fun hc H1 e1 => ?_) (fun hc H1 e1 => ?_)
  · have hf' : t.fits := by simpa using hf
    rw [decide_eq_true hf']
    exact et_not (et_B (ev_er (er_call1 (R1 := fun v H => NumV K H v t) (er_var rfl fun H1 e1 => hx.ex e1) numT.mono fun v H1 e1 h1 => ⟨t, h1, by have := hf'.2; omega, hf'.2, hf'.1, rfl⟩)))
  · cases decide t.fits <;> cases canB t <;> rfl
  · refine fun Hz ez => kx CN Hz (e1.trans ez) (hW fun ⟨g1, g2⟩ => ?_)
    rw [decide_eq_true g1, canB_iff.mpr g2] at hc
    cases hc
  · refine k _ H1 e1 (hR ?_ _)
    rw [Bool.or_eq_false_iff] at hc
    exact ⟨by simpa using hc.1, canB_iff.mp (by simpa using hc.2)⟩
theorem vac_has_form {K : PySem.W.Frag} {vs : List V} {H : Hp} {Q : VK} {E : XK} (h : sp_has_form K 0 vs H Q E) : False := by obtain ⟨x, R, _, ⟨t, _, h, _⟩, _⟩ := h; exact Nat.not_lt_zero _ h
end Sk
set_option Elab.async false
set_option linter.all false
set_option maxRecDepth 100000
set_option maxHeartbeats 2000000
namespace Sk
open PySem L2 Evl
section
variable {K : PySem.W.Frag} {σ : L2.St} {H : Hp} {te tf : TE} {ta : TA} {g : TG} {vs : List Nat}
theorem er_lcZ {xs ys : List V} {R : Nat → VP} {n : Nat} (hn : n = min xs.length ys.length) (hz : n < 90000) (hsrc : ∀ H1, Ex H H1 → ∀ Q : List V → Hp → Prop, (∀ a b H2, Ex H1 H2 → SqL K H2 a xs → SqL K H2 b ys → Q [.ref a, .ref b] H2) → ta σ H1 Q) (m : ∀ i, MonoT (R i))
    (hb : ∀ (i : Nat) x y T H1, xs[i]? = some x → ys[i]? = some y → Ex H H1 → SqT K H1 T [x, y] → ∀ Qk : VK, (∀ v H2, Ex H1 H2 → R i v H2 → Qk v H2) → g (.ref T) (wipe σ vs) H1 fun σ2 H2 => wipe σ2 vs = wipe σ vs ∧ te σ2 H2 Qk) :
    ER (tLc (iZip K ta) g tYes te vs) σ H (fun v H2 => ∃ p ys, v = .ref p ∧ H2 p = some (.lst ys) ∧ ys.length = n ∧ ∀ (j : Nat) (y : V), ys[j]? = some y → R j y H2) := fun H0 e0 Q q => hsrc H0 e0 _ fun a b H1 e1 ha hb' => ⟨a, b, xs, ys, rfl, ha, hb', fun Dl hD =>
  lc_it (walk_zip (K := K) (a := a) (b := b) hn) (Made H1 Dl R) ⟨hD, Ex.new hD, [], upd_same, rfl, fun j y h => by simp at h⟩ (fun i H' _ p => ⟨ex_l p.2.1 ha, ex_l p.2.1 hb'⟩)
    (fun i x H' H'' hi M ⟨T, u, w, hx, hT, hH, hu, hw⟩ => by
      subst hx hH
      have eT : Ex H' (upd H' T (.tup [u, w])) := Ex.new hT
      exact hb i u w T _ hu hw ((e0.trans e1).trans (M.2.1.trans eT)) (st_of upd_same) _ fun y H2 e2 r => M.turn m (by omega) (eT.trans e2) r)
    (fun H' M => by
      obtain ⟨h1, h2, ys, h3, h4, h5⟩ := M
      exact q _ H' (e1.trans h2) ⟨Dl, ys, rfl, h3, h4, h5⟩)⟩
/-- all(..) of a list that was just made -/
theorem ev_all {f : Nat → Bool} {n : Nat} (h : ER te σ H (fun v H2 => ∃ p ys, v = .ref p ∧ H2 p = some (.lst ys) ∧ ys.length = n ∧ ∀ (j : Nat) (y : V), ys[j]? = some y → y = .bl (f j))) : Ev (tCB (rAll K) (tCons te tNil)) σ H (.bl ((List.range n).all f)) := fun H1 e Q q =>
  h H1 e _ fun v H2 e2 ⟨p, ys, hv, hp, hl, hy⟩ => by
    have : ys = ((List.range n).map f).map V.bl := by
      apply List.ext_getElem?
      intro i
      rw [List.map_map, List.getElem?_map]
      rcases Nat.lt_or_ge i n with h | h
      · rw [List.getElem?_range h, List.getElem?_eq_getElem (by omega)]
        exact congrArg some (hy i _ (List.getElem?_eq_getElem (by omega)))
      · rw [List.getElem?_eq_none (by omega), List.getElem?_eq_none (by rw [List.length_range]; exact h)]; rfl
    refine ⟨p, (List.range n).map f, by rw [hv], by rw [← this]; exact sq_of hp, ?_⟩
    have e3 : ((List.range n).map f).all id = (List.range n).all f := by rw [List.all_map]; rfl
    rw [e3]
    exact q H2 e2
end
def pApart (K : PySem.W.Frag) : V → V → Hp → VP → Prop := fun x y H R => ∃ (t u : T), NumV K H x t ∧ NumV K H y u ∧ t.can ∧ u.can ∧ t.height ≤ 42 ∧ u.height ≤ 42 ∧ t.size ≤ 800 ∧ u.size ≤ 800 ∧ R = fun v _ => v = .bl (decide (u.val + 2 ≤ t.val))
def sp_are_apart (K : PySem.W.Frag) : Sp := spF2 (pApart K)
def t_are_apart (K : PySem.W.Frag) : TS := (tRet (tAndV (tOp xGt (tCall (sp_compare K) [] E0 (tCons (tVar 0) (tCons (tVar 1) tNil))) (tC (.int 0))) (tOp (rNeN K) (tVar 0) (tCall (sp_plus_small K) [] E0 (tCons (tVar 1) (tCons (tC (.int 1)) tNil))))))
theorem pure_are_apart {K : PySem.W.Frag} {vs : List V} {H : Hp} {Q : VK} {E : XK} (h : sp_are_apart K vs H Q E) : t_are_apart K { nx := fun _ H' => Q .non H', rt := Q } (start ["upper", "lower"] vs) H := by
  obtain ⟨x, y, R, rfl, ⟨t, u, hx, hy, ht, hu, h1, h2, h3, h4, rfl⟩, k⟩ := h
  have ne : Ev (tOp (rNeN K) (tVar 0) (tCall (sp_plus_small K) [] E0 (tCons (tVar 1) (tCons (tC (.int 1)) tNil)))) (start ["upper", "lower"] [x, y]) H (.bl (!decide (t.val = u.val + 1))) := fun H1 e Q q => by
    refine (ev_var rfl : Ev (tVar 0) (start ["upper", "lower"] [x, y]) H x) H1 e _ fun H2 e2 => ?_
    refine ER.imp (R' := fun w H' => ∃ z, NumV K H' w z ∧ z.can ∧ z.val = u.val + 1) (er_call2 (R1 := fun v H => NumV K H v u) (R2 := fun v _ => v = .int 1) (er_var rfl fun H3 e3 => hy.ex e3) numT.mono (er_is ev_c) monoC (fun v w H3 e3 g1 g2 => ⟨u, 1, 1, g1, g2, hu, by omega, fun x hx => by have := mem_size hx; omega, by have := len_size u; omega, by decide, rfl⟩)) (fun w H3 e3 ⟨z, g1, g2, g3, _⟩ => ⟨z, g1, g2, g3⟩) H2 (e.trans e2) _ fun w H3 e3 ⟨z, g1, g2, g3⟩ => ?_
    refine ⟨t.data, z.data, (hx.ex (e.trans (e2.trans e3))), g1, data_lay t, data_lay z, by have := data_depth t; omega, ?_⟩
    rw [data_eqv]
    have : decide (t = z) = decide (t.val = u.val + 1) := decide_eq_decide.mpr ⟨fun q => by rw [q, g3], fun q => can_uniq ht g2 (by rw [g3]; exact q)⟩
    rw [this]
    exact q H3 (e2.trans e3)
  refine s_ret (v := .bl (decide (u.val + 2 ≤ t.val))) (ev_is (ev_andV (ev_gt (ev_er (er_call2 (R1 := fun v H => NumV K H v t) (R2 := fun v H => NumV K H v u) (er_var rfl fun H1 e1 => hx.ex e1) numT.mono (er_var rfl fun H1 e1 => hy.ex e1) numT.mono fun v w H1 e1 g1 g2 => ⟨t, u, g1, g2, ht, hu, by omega, by omega, by omega, rfl⟩)) ev_c) fun _ => ne) ?_) fun H1 e1 => k _ _ e1 rfl
  congr 1
  unfold cmpI
  rw [Bool.eq_iff_iff, Bool.and_eq_true, Bool.not_eq_true', decide_eq_true_eq, decide_eq_false_iff_not, decide_eq_true_eq]
  split
  · constructor <;> intro q <;> omega
  · split
    · constructor <;> intro q <;> omega
    · constructor <;> intro q <;> omega
theorem can_adj : ∀ {t : T}, (∀ x ∈ t.toL, (x.1 = 1 ∨ x.1 = -1) ∧ x.2.can ∧ 0 ≤ x.2.val) → (∀ i x y, t.toL[i]? = some x → t.toL[i + 1]? = some y → y.2.val + 2 ≤ x.2.val) → t.can
  | .nil, _, _ => True.intro
  | .cons s e r, h, ha => by
    obtain ⟨h1, h2, h3⟩ := h (s, e) List.mem_cons_self
    refine ⟨⟨h1, h3, ?_⟩, h2, can_adj (fun x hx => h x (List.mem_cons_of_mem _ hx)) fun i x y g1 g2 => ha (i + 1) x y g1 g2⟩
    cases r with
    | nil => show -2 + 2 ≤ e.val; exact h3
    | cons s' e' r' => exact ha 0 (s, e) (s', e') rfl rfl
def t_has_form (K : PySem.W.Frag) (d : Nat) : TS := (tSeq (tFor (iTup K (tVar 0)) (gTup K 2 (gCons (gName 2) (gCons (gName 3) gNil))) (tIfS (tOr (tTest (tOp (rIn K true) (tVar 2) (tTup (tCons (tC (.int 1)) (tCons (tUn xNeg (tC (.int 1))) tNil))))) (tOr (tNot (tB (tCall (sp_has_form K d) [] E0 (tCons (tVar 3) tNil)))) (tTest (tOp xLt (tCall (sp_sign_of K) [] E0 (tCons (tVar 3) tNil)) (tC (.int 0)))))) (tRet (tC (.bl false))) tNext))
    (tSeq (tAsg (tLc (iTup K (tVar 0)) (gTup K 2 (gCons (gName 4) (gCons (gName 3) gNil))) tYes (tVar 3) [4, 3]) (gName 1))
    (tRet (tCB (rAll K) (tCons (tLc (iZip K (tCons (tVar 1) (tCons (tSl (rSlL K) (tVar 1) (tPart (tC (.int 1))) tNoPart) tNil))) (gTup K 2 (gCons (gName 5) (gCons (gName 6) gNil))) tYes (tCall (sp_are_apart K) [] E0 (tCons (tVar 5) (tCons (tVar 6) tNil))) [5, 6]) tNil)))))
theorem pure_has_form {K : PySem.W.Frag} {d : Nat} {vs : List V} {H : Hp} {Q : VK} {E : XK} (h : sp_has_form K (d + 1) vs H Q E) : t_has_form K d { nx := fun _ H' => Q .non H', rt := Q } (start ["number", "exponents", "sign", "exponent", "_", "upper", "lower"] vs) H := by
  obtain ⟨x, R, rfl, ⟨t, hx, hh, hd, hz, rfl⟩, k⟩ := h
  have hx0 := hx
  obtain ⟨a, xs, rfl, hs, ht⟩ := hx.out
  have hit := items_terms ht
  have hlt := len_size t
  refine q_forT (xs := xs) (ev_var rfl) hs (fun i σ H' => ∃ (z2 z3 : Option V), σ = [some (.ref a), none, z2, z3, none, none, none] ∧ Ex H H' ∧ ∀ j x, j < i → t.toL[j]? = some x → (x.1 = 1 ∨ x.1 = -1) ∧ x.2.can ∧ 0 ≤ x.2.val) (fun H2 e2 => ⟨none, none, rfl, e2, fun j x h => absurd h (Nat.not_lt_zero _)⟩) (fun i σ' H' _ ⟨_, _, _, e, _⟩ => ex_t e hs) ?_ ?_
  · rintro i x σ' H' hi ⟨z2, z3, rfl, e2, hok⟩
    obtain ⟨⟨s, e⟩, hget, p, w, rfl, hp, hwv⟩ := (hit.ex (fun a => termIm) e2).of_at hi
    have hmem : (s, e) ∈ t.toL := List.mem_of_getElem? hget
    have hms : e.size < t.size ∧ e.height < t.height := mem_size hmem
    refine g_pair hp ?_
    refine s_when (b := !decide (s = 1 ∨ s = -1) || (!canB e || decide (e.sgn < 0))) (et_or (et_test (ev_signIn rfl)) fun _ => et_or (et_not (et_B (ev_er (er_call1 (R1 := fun v H => NumV K H v e) (er_var rfl fun H1 e1 => hwv.ex e1) numT.mono fun v H1 e1 h1 => ⟨e, h1, by omega, by omega, by omega, rfl⟩)))) fun _ => et_test (ev_lt (ev_er (er_call1 (R1 := fun v H => NumV K H v e) (er_var rfl fun H1 e1 => hwv.ex e1) numT.mono fun v H1 e1 h1 => ⟨e, h1, rfl⟩)) ev_c)) (fun hc H3 e3 => ?_) (fun hc H3 e3 => ?_)
    · refine s_ret ev_c fun H4 e4 => k _ _ (e2.trans (e3.trans e4)) ?_
      have : canB t = false := by
        cases hcb : canB t with
        | false => rfl
        | true =>
          have hcan := canB_iff.mp hcb
          have h1 : s = 1 ∨ s = -1 := (can_sign hcan _ hmem).1
          have h2 : 0 ≤ e.val := (can_sign hcan _ hmem).2
          have h3 : e.can := can_mem hcan _ hmem
          have h4 := can_sgn h3
          rw [decide_eq_true h1, canB_iff.mpr h3, decide_eq_false (by omega)] at hc
          cases hc
      rw [this]
    · rw [Bool.or_eq_false_iff, Bool.or_eq_false_iff] at hc
      obtain ⟨c1, c2, c3⟩ := hc
      have h1 : s = 1 ∨ s = -1 := by
        have := c1
        simp at this
        omega
      have h3 : e.can := canB_iff.mp (by simpa using c2)
      have h2 := of_decide_eq_false c3
      have h4 := can_sgn h3
      refine ⟨_, _, rfl, e2.trans e3, fun j x hj hx => ?_⟩
      by_cases ej : j = i
      · subst ej
        rw [hget] at hx
        cases hx
        exact ⟨h1, h3, by show 0 ≤ e.val; omega⟩
      · exact hok j x (by omega) hx
  · rintro σ H2 ⟨z2, z3, rfl, e2, hok⟩
    have hl : xs.length = t.toL.length := ht.len
    have ok : ∀ x ∈ t.toL, (x.1 = 1 ∨ x.1 = -1) ∧ x.2.can ∧ 0 ≤ x.2.val := fun x hx => by
      obtain ⟨j, hj⟩ := List.mem_iff_getElem?.mp hx
      exact hok j x (by have := (List.getElem?_eq_some_iff.mp hj).1; omega) hj
    let RE : Int × T → VP := fun x v H => NumV K H v x.2
    have mRE : ∀ x, MonoT (RE x) := fun x v Ha Hb e h => NumV.tex h e
    refine q_asgR (er_lcIT (R1 := TermI K) (R2 := RE) (l := t.toL) (er_ev (ev_var rfl) fun H3 e3 => ⟨a, xs, rfl, ex_t (e2.trans e3) hs, hit.ex (fun x => termIm) (e2.trans e3)⟩) (fun x => termIm) mRE (by omega) ?_) fun v H3 e3 ⟨p, ws, hv, _, hp, hws⟩ => ?_
    · rintro i ⟨s, e⟩ x H1 hi ⟨q, w, rfl, g1, g2⟩ e1 Qk kk
      refine g_pair g1 ⟨rfl, ?_⟩
      exact ev_var rfl H1 (Ex.refl _) _ fun H4 e4 => kk _ _ e4 (g2.ex e4)
    subst hv
    have hwl : ws.length = t.toL.length := hws.1
    have hcut : cutV ws (some (1 : Int)) none = ws.drop 1 := by
      unfold cutV HT.sIx
      simp only
      rw [if_neg (by decide)]
      have e1 : (1 : Int).toNat = 1 := rfl
      rw [e1]
      rcases Nat.lt_or_ge ws.length 1 with h | h
      · rw [Nat.min_eq_right (by omega), List.drop_length, List.drop_of_length_le (by omega)]; simp
      · rw [Nat.min_eq_left h, List.take_of_length_le (by rw [List.length_drop]; exact Nat.le_refl _)]
    let f : Nat → Bool := fun i => decide (((t.toL.getD (i + 1) (0, .nil)).2).val + 2 ≤ ((t.toL.getD i (0, .nil)).2).val)
    refine s_ret (ev_all (f := f) (n := min ws.length (ws.drop 1).length) ((er_lcZ (xs := ws) (ys := ws.drop 1) (R := fun i v _ => v = .bl (f i)) rfl (by rw [List.length_drop]; omega) ?_ (fun i => monoTC) ?_).imp fun v H4 e4 h => h)) fun H4 e4 => k _ _ (e2.trans (e3.trans e4)) ?_
    · intro H4 e4 Q' q
      refine (ev_var rfl : Ev (tVar 1) _ H3 (.ref p)) H4 e4 _ fun H5 e5 => ?_
      refine el_sl (ev_var rfl) (eo_some ev_c) eo_none (sq_of hp) H5 (e4.trans e5) _ fun r H6 _ e6 h6 => ?_
      rw [hcut] at h6
      exact q p r H6 (e5.trans e6) (sq_of ((e4.trans (e5.trans e6)) p _ hp)) (sq_of h6)
    · intro i x y T0 H4 hx hy e4 hT Qk kk
      have hy' : ws[i + 1]? = some y := by rw [List.getElem?_drop] at hy; rw [Nat.add_comm]; exact hy
      obtain ⟨⟨s, e⟩, g1, g2⟩ := hws.of_at hx
      obtain ⟨⟨s', e'⟩, g3, g4⟩ := hws.of_at hy'
      have g2' : NumV K H3 x e := g2
      have g4' : NumV K H3 y e' := g4
      have m1 := List.mem_of_getElem? g1
      have m2 := List.mem_of_getElem? g3
      have z1 : e.size < t.size ∧ e.height < t.height := mem_size m1
      have z2 : e'.size < t.size ∧ e'.height < t.height := mem_size m2
      have hf : f i = decide (e'.val + 2 ≤ e.val) := by
        show decide _ = _
        rw [List.getD_eq_getElem?_getD, List.getD_eq_getElem?_getD, g1, g3]; rfl
      refine g_pair hT ⟨rfl, ?_⟩
      refine er_call2 (R1 := fun v H => NumV K H v e) (R2 := fun v H => NumV K H v e') (R := fun v _ => v = .bl (decide (e'.val + 2 ≤ e.val))) (er_var rfl fun H5 e5 => g2'.ex (e4.trans e5)) numT.mono (er_var rfl fun H5 e5 => g4'.ex (e4.trans e5)) numT.mono (fun v w H5 e5 k1 k2 => ⟨e, e', k1, k2, (ok _ m1).2.1, (ok _ m2).2.1, by omega, by omega, by omega, by omega, rfl⟩) H4 (Ex.refl _) _ fun v H5 e5 hv => kk v H5 e5 (by rw [hv, hf])
    · show V.bl _ = V.bl _
      congr 1
      rw [Bool.eq_iff_iff, canB_iff, List.all_eq_true]
      have hmin : min ws.length (ws.drop 1).length = t.toL.length - 1 := by rw [List.length_drop, hwl]; omega
      constructor
      · intro h
        refine can_adj ok fun i x y g1 g2 => ?_
        have hlt2 := (List.getElem?_eq_some_iff.mp g2).1
        have := h i (List.mem_range.mpr (by omega))
        have hf : f i = decide (y.2.val + 2 ≤ x.2.val) := by
          show decide _ = _
          rw [List.getD_eq_getElem?_getD, List.getD_eq_getElem?_getD, g1, g2]; rfl
        rw [hf] at this
        exact of_decide_eq_true this
      · intro hcan i hi
        have hi' := List.mem_range.mp hi
        have g1 : t.toL[i]? = some (t.toL[i]'(by omega)) := List.getElem?_eq_getElem (by omega)
        have g2 : t.toL[i + 1]? = some (t.toL[i + 1]'(by omega)) := List.getElem?_eq_getElem (by omega)
        have := List.pairwise_iff_getElem.mp (can_gap hcan) i (i + 1) (by omega) (by omega) (by omega)
        show decide _ = true
        rw [List.getD_eq_getElem?_getD, List.getD_eq_getElem?_getD, g1, g2]
        exact decide_eq_true this
end Sk
set_option Elab.async false
set_option linter.all false
set_option maxRecDepth 100000
set_option maxHeartbeats 1000000
namespace Sk
open PySem L2 Evl
theorem bl_le_iff (n k : Nat) : bl n ≤ k ↔ n < 2 ^ k := by
  have := intBits_le_iff (n : Int) k
  rw [intBits_abs] at this
  simpa using this
theorem bl_gt_iff (n k : Nat) : k < bl n ↔ 2 ^ k ≤ n := by
  have := bl_le_iff n k
  omega
/-- a sum of a number and an integer: the terms above stay, those below are taken into the integer -/
theorem absorb {t : T} (h : t.can) : ∀ (j : Nat) (v : Int), j ≤ t.toL.length → ∃ (keep : Nat) (v' : Int), keep ≤ j ∧ (ofL (t.toL.take j)).val + v = (ofL (t.toL.take keep)).val + v' ∧ (keep = 0 ∨ ∃ s e, t.toL[keep - 1]? = some (s, e) ∧ 0 < keep ∧ (bl v'.natAbs : Int) + 2 ≤ e.val) ∧ bl v'.natAbs ≤ bl v.natAbs + 2 * (j - keep)
  | 0, v, _ => ⟨0, v, Nat.le_refl _, rfl, .inl rfl, by omega⟩
  | j + 1, v, hj => by
    obtain ⟨⟨s, e⟩, hget⟩ : ∃ a, t.toL[j]? = some a := ⟨_, List.getElem?_eq_getElem (by omega)⟩
    by_cases hc : (bl v.natAbs : Int) + 2 ≤ e.val
    · exact ⟨j + 1, v, Nat.le_refl _, rfl, .inr ⟨s, e, hget, Nat.succ_pos _, hc⟩, by omega⟩
    · have hmem := List.mem_of_getElem? hget
      have hsg : (s = 1 ∨ s = -1) ∧ 0 ≤ e.val := can_sign h _ hmem
      have hb : bl (v + s * 2 ^ e.val.toNat).natAbs ≤ bl v.natAbs + 2 := by
        rw [bl_le_iff]
        have h1 : v.natAbs < 2 ^ bl v.natAbs := (bl_le_iff _ _).mp (Nat.le_refl _)
        have h2 : 2 ^ e.val.toNat ≤ 2 ^ (bl v.natAbs + 1) := Nat.pow_le_pow_right (by decide) (by omega)
        have h3 : (s * 2 ^ e.val.toNat).natAbs = 2 ^ e.val.toNat := by
          rw [Int.natAbs_mul, Int.natAbs_pow]
          rcases hsg.1 with rfl | rfl <;> simp
        have h4 := Int.natAbs_add_le v (s * 2 ^ e.val.toNat)
        rw [Nat.pow_succ] at h2
        rw [Nat.pow_add]
        have h22 : (2 : Nat) ^ 2 = 4 := by decide
        rw [h22]
        omega
      obtain ⟨keep, v', h1, h2, h3, h4⟩ := absorb h j (v + s * 2 ^ e.val.toNat) (by omega)
      refine ⟨keep, v', by omega, ?_, h3, by omega⟩
      rw [take_step hget, ← h2]
      omega
/-- two numbers whose first terms differ: neither is much longer than their difference -/
theorem near_len {t u : T} (ht : t.can) (hu : u.can) (hd : ∀ x y, t.toL[0]? = some x → u.toL[0]? = some y → x ≠ y) : bl t.val.natAbs ≤ bl (t.val - u.val).natAbs + 2 * u.toL.length := by
  obtain ⟨keep, v', h1, h2, h3, h4⟩ := absorb hu u.toL.length (t.val - u.val) (Nat.le_refl _)
  rw [List.take_length, ofL_toL] at h2
  have hv : t.val = (ofL (u.toL.take keep)).val + v' := by rw [← h2]; omega
  rcases Nat.eq_zero_or_pos keep with h0 | h0
  · subst h0
    rw [List.take_zero] at hv
    have : t.val = v' := by rw [hv]; show 0 + v' = v'; omega
    rw [← this] at h4
    omega
  · exfalso
    obtain ⟨c1, c2⟩ := plus_can hu h3
    have heq : ofL (u.toL.take keep ++ (toT v').toL) = t := can_uniq c1 ht (by rw [c2, hv])
    have hl : 0 < u.toL.length := by omega
    have h5 : u.toL[0]? = some u.toL[0] := List.getElem?_eq_getElem hl
    have h6 : t.toL[0]? = some u.toL[0] := by
      rw [← heq, toL_ofL, List.getElem?_append_left (by rw [List.length_take]; omega), List.getElem?_take, if_pos h0, h5]
    exact hd _ _ h6 h5 rfl
theorem bl_neg (a b : Int) : bl (a - b).natAbs = bl (b - a).natAbs := by
  have : (a - b).natAbs = (b - a).natAbs := by omega
  rw [this]
/-- two numbers behind their common beginning -/
theorem drop_first {t u : T} {j : Nat} (h : ∀ x y, t.toL[j]? = some x → u.toL[j]? = some y → x ≠ y) : ∀ x y, (ofL (t.toL.drop j)).toL[0]? = some x → (ofL (u.toL.drop j)).toL[0]? = some y → x ≠ y := by
  intro x y h1 h2
  rw [toL_ofL, List.getElem?_drop] at h1 h2
  exact h x y h1 h2
theorem far_of_none {t u : T} {j : Nat} (ht : t.can) (hu : u.can) (he : t.toL.take j = u.toL.take j) (hd : ∀ x y, t.toL[j]? = some x → u.toL[j]? = some y → x ≠ y)
    (hn : (ofL (t.toL.drop j)).within (64 + 2 * ((t.toL.drop j).length + (u.toL.drop j).length)) = none ∨ (ofL (u.toL.drop j)).within (64 + 2 * ((t.toL.drop j).length + (u.toL.drop j).length)) = none) : 2 ^ 64 ≤ (t.val - u.val).natAbs := by
  have c1 := can_drop ht j
  have c2 := can_drop hu j
  have hv : t.val - u.val = (ofL (t.toL.drop j)).val - (ofL (u.toL.drop j)).val := by
    rw [val_cut t j, val_cut u j, he]; omega
  have n1 := near_len c1 c2 (drop_first hd)
  have n2 := near_len c2 c1 (fun x y h1 h2 q => drop_first hd y x h2 h1 q.symm)
  rw [bl_neg] at n2
  rw [toL_ofL] at n1 n2
  rw [hv, ← bl_gt_iff]
  rcases hn with h | h
  · have h3 := can_none c1 h
    have h4 := (bl_gt_iff _ _).mpr (Nat.le_of_lt h3)
    omega
  · have h3 := can_none c2 h
    have h4 := (bl_gt_iff _ _).mpr (Nat.le_of_lt h3)
    omega
def GapR (a b : Int) : VP := fun v _ => (v = .non ∧ 2 ^ 64 ≤ (a - b).natAbs) ∨ v = .int (a - b)
def pGap (K : PySem.W.Frag) : V → V → Hp → VP → Prop := fun x y H R => ∃ (t u : T), NumV K H x t ∧ NumV K H y u ∧ t.can ∧ u.can ∧ t.height ≤ 44 ∧ u.height ≤ 44 ∧ t.size < 90000 ∧ u.size < 90000 ∧ t.toL.length ≤ 20000 ∧ u.toL.length ≤ 20000 ∧ R = GapR t.val u.val
def sp_gap (K : PySem.W.Frag) : Sp := spF2 (pGap K)
def t_gap (K : PySem.W.Frag) : TS := (tSeq (tAsg (tC (.int 0)) (gName 2))
    (tSeq (tFor (RZ.iZipA K (tCons (tVar 0) (tCons (tVar 1) tNil))) (gTup K 2 (gCons (gName 8) (gCons (gName 9) gNil))) (tSeq (tIfS (tTest (tOp (rNeN K) (tVar 8) (tVar 9))) tBreak tNext)
    (tAug 2 (tC (.int 1)) (ipI fun i j => i + j))))
    (tSeq (tAsg (tSl (rSlA K) (tVar 0) (tPart (tVar 2)) tNoPart) (gName 3))
    (tSeq (tAsg (tSl (rSlA K) (tVar 1) (tPart (tVar 2)) tNoPart) (gName 4))
    (tSeq (tAsg (tOp xAdd (tC (.int 64)) (tOp xMul (tC (.int 2)) (tOp xAdd (tCB (rLenS K) (tCons (tVar 3) tNil)) (tCB (rLenS K) (tCons (tVar 4) tNil))))) (gName 5))
    (tSeq (tAsg (tCall (sp_value_within K 45) [] E0 (tCons (tVar 3) (tCons (tVar 5) tNil))) (gName 6))
    (tSeq (tIfS (tTest (tOp xIsN (tVar 6) (tC .non))) (tRet (tC .non)) tNext)
    (tSeq (tAsg (tCall (sp_value_within K 45) [] E0 (tCons (tVar 4) (tCons (tVar 5) tNil))) (gName 7))
    (tRet (tIf (tTest (tOp xIsN (tVar 7) (tC .non))) (tC .non) (tOp xSub (tVar 6) (tVar 7))))))))))))
/-- for x, y in zip(a, b), both tuples -/
theorem q_forZ {K : PySem.W.Frag} {σ : L2.St} {H : Hp} {D : Ends} {tz tb : TS} {i j pi pj : Nat} {a b : Addr} {xs ys : List V} {n : Nat} (hi : σ[pi]? = some (some (.ref a))) (hj : σ[pj]? = some (some (.ref b))) (ha : SqT K H a xs) (hb : SqT K H b ys) (hn : n = min xs.length ys.length) (Pv : Nat → L2.St → Hp → Prop) (h0 : Pv 0 σ H) (hq : ∀ m σ' H', Pv m σ' H' → Ex H H')
    (hs : ∀ m x y σ' H', m < n → xs[m]? = some x → ys[m]? = some y → Pv m σ' H' → ∀ H1, Ex H' H1 → tb { D with nx := Pv (m + 1), ct := Pv (m + 1), bk := tz D } ((σ'.set i (some x)).set j (some y)) H1) (hd : ∀ σ' H', Pv n σ' H' → tz D σ' H') :
    tSeq (tFor (RZ.iZipA K (tCons (tVar pi) (tCons (tVar pj) tNil))) (gTup K 2 (gCons (gName i) (gCons (gName j) gNil))) tb) tz D σ H := by
  refine ⟨_, hi, _, hj, a, b, xs, ys, rfl, .inr ⟨ha, hb, ?_⟩⟩
  refine forE_by (D := { D with nx := tz D }) (u := fun D' => D'.nx) n Pv h0 (fun m σ' H' hm p => ?_) (fun σ' H' p => ?_) (fun m v σ' H' H'' hm p y => ?_) hd
  · exact (walk_zipT hn).goes m H' hm ⟨ex_t (hq _ _ _ p) ha, ex_t (hq _ _ _ p) hb⟩
  · exact (walk_zipT hn).stops H' ⟨ex_t (hq _ _ _ p) ha, ex_t (hq _ _ _ p) hb⟩
  · obtain ⟨T, x, z, h1, h2, h3, h4, h5⟩ := y
    subst h1 h3
    refine g_pair (st_of upd_same) ?_
    exact hs m x z σ' H' hm (h4 xs (ex_t (hq _ _ _ p) ha)) (h5 ys (ex_t (hq _ _ _ p) hb)) p _ (Ex.new h2)
theorem pure_gap {K : PySem.W.Frag} {vs : List V} {H : Hp} {Q : VK} {E : XK} (h : sp_gap K vs H Q E) : t_gap K { nx := fun _ H' => Q .non H', rt := Q } (start ["first", "second", "same", "upper", "lower", "bits", "high", "low", "left", "right"] vs) H := by
  obtain ⟨x, y, R, rfl, ⟨t, u, hx, hy, ht, hu, hh1, hh2, hz1, hz2, hl1, hl2, rfl⟩, k⟩ := h
  obtain ⟨a, xs, rfl, ha, hxs⟩ := hx.out
  obtain ⟨b, ys, rfl, hb, hys⟩ := hy.out
  have lx := hxs.len
  have ly := hys.len
  have it1 := items_terms hxs
  have it2 := items_terms hys
  -- behind the loop
  have rest : ∀ (j : Nat) (z8 z9 : Option V) (H1 : Hp), Ex H H1 → t.toL.take j = u.toL.take j → (∀ x y, t.toL[j]? = some x → u.toL[j]? = some y → x ≠ y) → j ≤ 20000 →
      tSeq (tAsg (tSl (rSlA K) (tVar 0) (tPart (tVar 2)) tNoPart) (gName 3))
    (tSeq (tAsg (tSl (rSlA K) (tVar 1) (tPart (tVar 2)) tNoPart) (gName 4))
    (tSeq (tAsg (tOp xAdd (tC (.int 64)) (tOp xMul (tC (.int 2)) (tOp xAdd (tCB (rLenS K) (tCons (tVar 3) tNil)) (tCB (rLenS K) (tCons (tVar 4) tNil))))) (gName 5))
    (tSeq (tAsg (tCall (sp_value_within K 45) [] E0 (tCons (tVar 3) (tCons (tVar 5) tNil))) (gName 6))
    (tSeq (tIfS (tTest (tOp xIsN (tVar 6) (tC .non))) (tRet (tC .non)) tNext)
    (tSeq (tAsg (tCall (sp_value_within K 45) [] E0 (tCons (tVar 4) (tCons (tVar 5) tNil))) (gName 7))
    (tRet (tIf (tTest (tOp xIsN (tVar 7) (tC .non))) (tC .non) (tOp xSub (tVar 6) (tVar 7))))))))) { nx := fun _ H' => Q .non H', rt := Q } [some (.ref a), some (.ref b), some (.int (j : Int)), none, none, none, none, none, z8, z9] H1 := by
    intro j z8 z9 H1 e1 he hd hj
    refine q_asgR (er_fromT (n := j) (ev_var rfl) (ex_t e1 ha) (ev_var rfl)) fun v H2 e2 ⟨q, hv, g2⟩ => ?_
    subst hv
    refine q_asgR (er_fromT (n := j) (ev_var rfl) (ex_t (e1.trans e2) hb) (ev_var rfl)) fun v H3 e3 ⟨q', hv, g3⟩ => ?_
    subst hv
    have e13 := e1.trans (e2.trans e3)
    have n1 : NumV K H3 (.ref q) (ofL (t.toL.drop j)) := NumV.mk (ex_t e3 g2) (terms_items ((it1.ex (fun x => (termI x).mono) e13).drop j))
    have n2 : NumV K H3 (.ref q') (ofL (u.toL.drop j)) := NumV.mk g3 (terms_items ((it2.ex (fun x => (termI x).mono) e13).drop j))
    have b1 : (xs.drop j).length = (t.toL.drop j).length := by rw [List.length_drop, List.length_drop, lx]
    have b2 : (ys.drop j).length = (u.toL.drop j).length := by rw [List.length_drop, List.length_drop, ly]
    have d1 : (t.toL.drop j).length ≤ 20000 := by rw [List.length_drop]; omega
    have d2 : (u.toL.drop j).length ≤ 20000 := by rw [List.length_drop]; omega
    generalize hB : 64 + 2 * ((t.toL.drop j).length + (u.toL.drop j).length) = B at *
    refine q_asg (v := .int (B : Int)) (ev_is (ev_add ev_c (ev_mul ev_c (ev_add (ev_lenT (ev_var rfl) (ex_t e3 g2)) (ev_lenT (ev_var rfl) g3)) (.inl (by decide)))) (by rw [b1, b2, ← hB]; congr 1)) fun H4 e4 => ?_
    have nn1 := nn_of_can (can_drop ht j) (Nat.lt_of_le_of_lt (size_drop t j) (by omega))
    have nn2 := nn_of_can (can_drop hu j) (Nat.lt_of_le_of_lt (size_drop u j) (by omega))
    have hd1 := height_drop t j
    have hd2 := height_drop u j
    refine q_asgR (R := fun v _ => v = optV ((ofL (t.toL.drop j)).within B)) (er_call2 (R1 := fun v H => NumV K H v (ofL (t.toL.drop j))) (R2 := fun v _ => v = .int (B : Int)) (er_var rfl fun H5 e5 => n1.ex (e4.trans e5)) numT.mono (er_is (ev_var rfl)) monoC fun v w H5 e5 k1 k2 => ⟨_, B, k1, k2, nn1, by omega, by omega, by rw [toL_ofL]; omega, rfl⟩) fun v H5 e5 hv => ?_
    subst hv
    have e15 := e13.trans (e4.trans e5)
    cases hw1 : (ofL (t.toL.drop j)).within B with
    | none =>
      refine q_when (b := true) (et_test (ev_is (ev_isN (ev_var rfl)) rfl)) (fun _ H6 e6 => ?_) (fun h => by cases h)
      exact s_ret ev_c fun H7 e7 => k _ _ (e15.trans (e6.trans e7)) (.inl ⟨rfl, far_of_none ht hu he hd (.inl (by rw [hB]; exact hw1))⟩)
    | some hi =>
      refine q_when (b := false) (et_test (ev_is (ev_isN (ev_var rfl)) rfl)) (fun h => by cases h) (fun _ H6 e6 => ?_)
      refine q_asgR (R := fun v _ => v = optV ((ofL (u.toL.drop j)).within B)) (er_call2 (R1 := fun v H => NumV K H v (ofL (u.toL.drop j))) (R2 := fun v _ => v = .int (B : Int)) (er_var rfl fun H7 e7 => n2.ex (e4.trans (e5.trans (e6.trans e7)))) numT.mono (er_is (ev_var rfl)) monoC fun v w H7 e7 k1 k2 => ⟨_, B, k1, k2, nn2, by omega, by omega, by rw [toL_ofL]; omega, rfl⟩) fun v H7 e7 hv => ?_
      subst hv
      have e17 := e15.trans (e6.trans e7)
      cases hw2 : (ofL (u.toL.drop j)).within B with
      | none =>
        refine s_ret (v := .non) (ev_if (b := true) (et_test (ev_is (ev_isN (ev_var rfl)) rfl)) (fun _ => ev_c) (fun h => by cases h)) fun H8 e8 => k _ _ (e17.trans e8) (.inl ⟨rfl, far_of_none ht hu he hd (.inr (by rw [hB]; exact hw2))⟩)
      | some lo =>
        have v1 := within_val _ _ _ hw1
        have v2 := within_val _ _ _ hw2
        refine s_ret (v := .int (hi - lo)) (ev_if (b := false) (et_test (ev_is (ev_isN (ev_var rfl)) rfl)) (fun h => by cases h) (fun _ => ev_sub (ev_var rfl) (ev_var rfl))) fun H8 e8 => k _ _ (e17.trans e8) (.inr ?_)
        rw [v1, v2, val_cut t j, val_cut u j, he]
        congr 1
        omega
  refine q_asg ev_c fun H1 e1 => ?_
  refine q_forZ (i := 8) (j := 9) (pi := 0) (pj := 1) (n := min xs.length ys.length) rfl rfl (ex_t e1 ha) (ex_t e1 hb) rfl (fun i σ H5 => ∃ z8 z9, σ = [some (.ref a), some (.ref b), some (.int (i : Int)), none, none, none, none, none, z8, z9] ∧ Ex H1 H5 ∧ t.toL.take i = u.toL.take i) ⟨none, none, rfl, Ex.refl _, rfl⟩ (fun m σ' H' ⟨_, _, _, e, _⟩ => e) ?_ ?_
  · rintro i x' y' σ H5 hi hx' hy' ⟨z8, z9, rfl, e5, hp⟩ H6 e6
    have e46 := e1.trans (e5.trans e6)
    obtain ⟨⟨s, e⟩, g1, g2⟩ := (it1.ex (fun x => (termI x).mono) e46).of_at hx'
    obtain ⟨⟨s', e'⟩, g3, g4⟩ := (it2.ex (fun x => (termI x).mono) e46).of_at hy'
    have m1 := mem_size (List.mem_of_getElem? g1)
    have m1' : e.size < t.size ∧ e.height < t.height := m1
    refine q_when (b := !decide ((s, e) = (s', e'))) (et_test (ev_neTm rfl rfl g2 g4 (by show e.height ≤ 46; omega))) (fun hd H7 e7 => ?_) (fun hd H7 e7 => ?_)
    · have hdne : (s, e) ≠ (s', e') := of_decide_eq_false ((Bool.not_eq_true' _).mp hd)
      unfold tBreak
      dsimp only
      exact rest i _ _ H7 (e46.trans e7) hp (fun x y k1 k2 => by rw [g1] at k1; rw [g3] at k2; cases k1; cases k2; exact hdne) (by omega)
    · have hdeq : (s, e) = (s', e') := of_decide_eq_true (by rw [Bool.not_eq_false'] at hd; exact hd)
      refine s_aug (a := (i : Int)) (b := 1) rfl ev_c fun H8 e8 => ⟨_, _, rfl, e5.trans (e6.trans (e7.trans e8)), ?_⟩
      rw [take_snoc g1, take_snoc g3, hp, hdeq]
  · rintro σ H5 ⟨z8, z9, rfl, e5, hp⟩
    exact rest _ _ _ H5 (e1.trans e5) hp (fun x y k1 k2 => by
      have := (List.getElem?_eq_some_iff.mp k1).1
      have := (List.getElem?_eq_some_iff.mp k2).1
      omega) (by omega)
end Sk
set_option Elab.async false
set_option linter.all false
set_option maxRecDepth 100000
set_option maxHeartbeats 2000000
namespace Sk
open PySem L2 Evl
section
variable {K : PySem.W.Frag} {σ : L2.St} {H : Hp} {te : TE} {ta : TA} {g : TG} {vs : List Nat}
theorem er_lcR {R : Nat → VP} {n : Int} (hsrc : EvA ta σ H [.int n]) (hn : 0 ≤ n ∧ n ≤ 90000) (m : ∀ i, MonoT (R i))
    (hb : ∀ (i : Nat) H1, (i : Int) < n → Ex H H1 → ∀ Qk : VK, (∀ v H2, Ex H1 H2 → R i v H2 → Qk v H2) → g (.int (i : Int)) (wipe σ vs) H1 fun σ2 H2 => wipe σ2 vs = wipe σ vs ∧ te σ2 H2 Qk) :
    ER (tLc (iRng1 ta) g tYes te vs) σ H (fun v H2 => ∃ p ys, v = .ref p ∧ H2 p = some (.lst ys) ∧ ys.length = n.toNat ∧ ∀ (j : Nat) (y : V), ys[j]? = some y → R j y H2) := fun H0 e0 Q q => hsrc H0 e0 _ fun H1 e1 => ⟨n, rfl, by omega, by omega, fun Dl hD =>
  lc_range (lo := 0) (n := n.toNat) (Made H1 Dl R) ⟨hD, Ex.new hD, [], upd_same, rfl, fun j y h => by simp at h⟩
    (fun i H' hi M => by
      have hi' : (i : Int) < n := by omega
      rw [Int.zero_add]
      exact hb i H' hi' ((e0.trans e1).trans M.2.1) _ fun y H2 e2 r => M.turn m (by omega) e2 r)
    (fun H' M => by
      obtain ⟨h1, h2, ys, h3, h4, h5⟩ := M
      exact q _ H' (e1.trans h2) ⟨Dl, ys, rfl, h3, h4, h5⟩)⟩
end
section
theorem ItemsR.mapI {α β : Type} {R : β → VP} {f : α → β} {l : List α} {ys : List V} {H : Hp} (h : ItemsR (fun a => R (f a)) l ys H) : ItemsR R (l.map f) ys H :=
  ⟨by rw [List.length_map]; exact h.1, fun i y b h1 h2 => by
    rw [List.getElem?_map] at h2
    cases hq : l[i]? with
    | none => rw [hq] at h2; cases h2
    | some a => rw [hq] at h2; cases h2; exact h.2 i y a h1 hq⟩
end
end Sk
set_option Elab.async false
set_option linter.all false
set_option maxRecDepth 100000
set_option maxHeartbeats 1000000
namespace Sk
open PySem L2 Evl
/-- the value of a list of terms, in any order -/
def sumT (l : List (Int × T)) : Int := (l.map fun x => x.1 * 2 ^ x.2.val.toNat).sum
theorem sumT_nil : sumT [] = 0 := rfl
theorem sumT_cons (x : Int × T) (l : List (Int × T)) : sumT (x :: l) = x.1 * 2 ^ x.2.val.toNat + sumT l := by unfold sumT; rw [List.map_cons, List.sum_cons]
theorem sumT_app (l l' : List (Int × T)) : sumT (l ++ l') = sumT l + sumT l' := by unfold sumT; rw [List.map_append, List.sum_append]
theorem sumT_rev (l : List (Int × T)) : sumT l.reverse = sumT l := by unfold sumT; rw [List.map_reverse, List.sum_reverse]
theorem sumT_ofL (l : List (Int × T)) : (ofL l).val = sumT l := val_ofL l
/-- how great an exponent may become -/
def Near (e x : T) : Prop := x.size ≤ e.size + 40 * (18 + 3 * e.toL.length) ∧ x.height ≤ max e.height 6
theorem Near.refl (e : T) : Near e e := ⟨Nat.le_add_right _ _, Nat.le_max_left _ _⟩
structure TermsAt (e : T) (c : Int) (l : List (Int × T)) : Prop where
  len : l.length = (naf c 0).length
  it : ∀ (i : Nat) (s : Int) (p : Nat) (x : Int × T), (naf c 0)[i]? = some (s, p) → l[i]? = some x → x.1 = s ∧ x.2.can ∧ x.2.val = e.val + (p : Int) ∧ Near e x.2
theorem TermsAt.get {e : T} {c : Int} {l : List (Int × T)} (h : TermsAt e c l) {i : Nat} {x : Int × T} (hx : l[i]? = some x) : ∃ s p, (naf c 0)[i]? = some (s, p) ∧ x.1 = s ∧ x.2.can ∧ x.2.val = e.val + (p : Int) ∧ Near e x.2 := by
  have hi := (List.getElem?_eq_some_iff.mp hx).1
  rw [h.len] at hi
  have hq' : (naf c 0)[i]? = some ((naf c 0)[i].1, (naf c 0)[i].2) := List.getElem?_eq_getElem hi
  exact ⟨_, _, hq', h.it i _ _ x hq' hx⟩
theorem TermsAt.sum {e : T} {c : Int} {l : List (Int × T)} (h : TermsAt e c l) (h0 : 0 ≤ e.val) : sumT l = c * 2 ^ e.val.toNat := by
  have h1 := naf_sum c.natAbs c (Nat.le_refl _) e.val.toNat
  have key : ∀ (a : List (Int × Nat)) (b : List (Int × T)), b.length = a.length → (∀ (i : Nat) (s : Int) (p : Nat) (x : Int × T), a[i]? = some (s, p) → b[i]? = some x → x.1 = s ∧ x.2.val = e.val + (p : Int)) → sumT b = sumP a * 2 ^ e.val.toNat := by
    intro a
    induction a with
    | nil => intro b hb _; rw [List.length_eq_zero_iff.mp hb]; simp [sumT, sumP]
    | cons y r ih =>
      intro b hb hk
      cases b with
      | nil => cases hb
      | cons x b =>
        obtain ⟨s, p⟩ := y
        obtain ⟨k1, k2⟩ := hk 0 s p x rfl rfl
        rw [sumT_cons, ih b (by simpa using hb) (fun i s p x h1 h2 => hk (i + 1) s p x (by simpa using h1) (by simpa using h2)), k1, k2, sumP, Int.add_mul]
        congr 1
        have : (e.val + (p : Int)).toNat = p + e.val.toNat := by omega
        rw [this, Int.pow_add, Int.mul_assoc]
  have h2 := key (naf c 0) l h.len (fun i s p x h1 h2 => ⟨(h.it i s p x h1 h2).1, (h.it i s p x h1 h2).2.2.1⟩)
  rw [h2]
  congr 1
  have h3 := naf_sum c.natAbs c (Nat.le_refl _) 0
  rw [h3, Int.pow_zero, Int.mul_one]
theorem TermsAt.gap {e : T} {c : Int} {l : List (Int × T)} (h : TermsAt e c l) : l.Pairwise (fun x y => x.2.val + 2 ≤ y.2.val) := by
  rw [List.pairwise_iff_getElem]
  intro i j hi hj hij
  obtain ⟨s, p, g1, _, _, g2, _⟩ := h.get (List.getElem?_eq_getElem hi)
  obtain ⟨s', p', k1, _, _, k2, _⟩ := h.get (List.getElem?_eq_getElem hj)
  have := List.pairwise_iff_getElem.mp (naf_gap c.natAbs c (Nat.le_refl _) 0) i j (by rw [← h.len]; exact hi) (by rw [← h.len]; exact hj) hij
  rw [(List.getElem?_eq_some_iff.mp g1).2, (List.getElem?_eq_some_iff.mp k1).2] at this
  have h5 : p + 2 ≤ p' := this
  rw [g2, k2]
  omega
theorem TermsAt.mem {e : T} {c : Int} {l : List (Int × T)} (h : TermsAt e c l) {x : Int × T} (hx : x ∈ l) : (x.1 = 1 ∨ x.1 = -1) ∧ x.2.can ∧ e.val ≤ x.2.val ∧ x.2.val ≤ e.val + (bl c.natAbs : Int) ∧ Near e x.2 := by
  obtain ⟨i, hi⟩ := List.mem_iff_getElem?.mp hx
  obtain ⟨s, p, g1, g2, g3, g4, g5⟩ := h.get hi
  have hm := List.mem_of_getElem? g1
  have h1 := naf_sign hm
  have h2 := naf_le (n := c) (m := bl c.natAbs) (Nat.le_of_lt (lt_bl _)) hm
  have h3 : p ≤ bl c.natAbs := h2
  exact ⟨by rw [g2]; exact h1, g3, by omega, by omega, g5⟩
/-- what is asked of an exponent -/
structure ExpOk (e : T) : Prop where
  can : e.can
  nn : 0 ≤ e.val
  ht : e.height ≤ 43
  sz : e.size < 80000
  ln : e.toL.length ≤ 800
theorem ExpOk.sub {e : T} (h : ExpOk e) : ∀ x ∈ e.toL, x.2.size < 90000 := fun x hx => by have := mem_size hx; have := h.sz; omega
def pTermsAt (K : PySem.W.Frag) : V → V → Hp → VP → Prop := fun x y H R => ∃ (e : T) (c : Int), NumV K H x e ∧ ExpOk e ∧ y = .int c ∧ c.natAbs ≤ 2 ^ 30000 ∧
  R = fun v H' => ∃ p ys l, v = .ref p ∧ H' p = some (.lst ys) ∧ ItemsR (TermI K) l ys H' ∧ TermsAt e c l
def sp_terms_at (K : PySem.W.Frag) : Sp := spF2 (pTermsAt K)
def t_terms_at (K : PySem.W.Frag) : TS := (tSeq (tIfS (tOr (tTest (tOp rEq (tVar 1) (tC (.int 1)))) (tTest (tOp rEq (tVar 1) (tUn xNeg (tC (.int 1)))))) (tRet (tLst (tCons (tTup (tCons (tVar 1) (tCons (tVar 0) tNil))) tNil))) tNext)
    (tRet (tLc (iList K (tCall (sp_signed_places K) [] E0 (tCons (tVar 1) tNil))) (gTup K 2 (gCons (gName 2) (gCons (gName 3) gNil))) tYes (tTup (tCons (tVar 2) (tCons (tCall (sp_plus_small K) [] E0 (tCons (tVar 0) (tCons (tVar 3) tNil))) tNil))) [2, 3])))
theorem naf_unit {c : Int} (h : c = 1 ∨ c = -1) : naf c 0 = [(c, 0)] := by
  rcases h with rfl | rfl
  · rw [naf_odd (by decide), show ((1 : Int) - (2 - 1 % 4)) / 2 = 0 by decide, naf_zero]; rfl
  · rw [naf_odd (by decide), show ((-1 : Int) - (2 - -1 % 4)) / 2 = 0 by decide, naf_zero]; rfl
theorem pure_terms_at {K : PySem.W.Frag} {vs : List V} {H : Hp} {Q : VK} {E : XK} (h : sp_terms_at K vs H Q E) : t_terms_at K { nx := fun _ H' => Q .non H', rt := Q } (start ["base", "value", "sign", "place"] vs) H := by
  obtain ⟨x, y, R, rfl, ⟨e, c, hx, hok, rfl, hc, rfl⟩, k⟩ := h
  refine q_when (b := decide (V.int c = V.int 1) || decide (V.int c = V.int (-1))) (et_or (et_test (ev_eq (ev_var rfl) ev_c rfl)) fun _ => et_test (ev_eq (ev_var rfl) (ev_neg ev_c) rfl)) (fun hb H1 e1 => ?_) (fun hb H1 e1 => ?_)
  · have hu : c = 1 ∨ c = -1 := by
      rw [Bool.or_eq_true, decide_eq_true_eq, decide_eq_true_eq] at hb
      rcases hb with h | h
      · exact .inl (V.int.inj h)
      · exact .inr (V.int.inj h)
    have hER : ER (tTup (tCons (tVar 1) (tCons (tVar 0) tNil))) (start ["base", "value", "sign", "place"] [x, .int c]) H1 (TermI K (c, e)) :=
      (er_tup (ea_two (R := fun v _ => v = .int c) (R' := fun v H2 => NumV K H2 v e) (er_is (ev_var rfl)) monoC (er_var rfl fun H2 e2 => hx.ex (e1.trans e2)) numT.mono) (fun vs Ha Hb e ⟨v, w, h1, h2, h3⟩ => ⟨v, w, h1, h2, h3.ex e⟩) (fun vs Ha ⟨v, w, h1, _⟩ => by rw [h1]; show 2 ≤ 100000; omega)).imp fun v H2 e2 ⟨p, vs, hv, hp, u, w, g1, g2, g3⟩ => ⟨p, w, hv, st_of (by rw [hp, g1, g2]), g3⟩
    refine s_retR (er_lst (RA := fun vs H2 => ∃ v, vs = [v] ∧ TermI K (c, e) v H2) (ea_one hER (termI _).mono) (fun vs Ha Hb e ⟨v, h1, h2⟩ => ⟨v, h1, (termI _).mono _ _ _ e h2⟩) (fun vs Ha ⟨v, h1, _⟩ => by rw [h1]; show 1 ≤ 100000; omega)) fun v H2 e2 ⟨p, vs, hv, hp0, hp, w, hw, hI⟩ => k v H2 (e1.trans e2) ⟨p, [w], [(c, e)], hv, by rw [hp, hw], ItemsR.snoc (l := []) (ys := []) .nil hI, ?_⟩
    refine ⟨by rw [naf_unit hu]; rfl, fun i s p x h1 h2 => ?_⟩
    rw [naf_unit hu] at h1
    cases i with
    | zero => simp at h1 h2; obtain ⟨rfl, rfl⟩ := h1; subst h2; exact ⟨rfl, hok.can, by simp, Near.refl e⟩
    | succ i => simp at h1
  · have hlen := naf_len 30000 c 0 hc
    refine s_retR ((er_lcI (R1 := PairI) (R2 := fun y : Int × Nat => fun v H => ∃ x : Int × T, TermI K x v H ∧ x.1 = y.1 ∧ x.2.can ∧ x.2.val = e.val + (y.2 : Int) ∧ Near e x.2) (l := naf c 0) ((er_call1 (R1 := fun v _ => v = .int c) (er_is (ev_var rfl)) monoC fun v H1 e hv => ⟨c, 30000, hv, by decide, hc, rfl⟩).imp fun v H2 e2 h => by
      obtain ⟨p, ys, hv, h1, h2⟩ := h
      exact ⟨p, ys, hv, sq_of h1, h2⟩) (fun a => (pairI a).mono) (fun a v Ha Hb e' ⟨x, h1, h2⟩ => ⟨x, termI x _ _ _ e' h1, h2⟩) (by omega) ?_)) fun v H2 e2 ⟨p, ys, hv, hp0, hp, hit⟩ => k v H2 (e1.trans e2) ?_
    · rintro i ⟨s, pl⟩ z H2 hi ⟨q, rfl, hq⟩ e2 Qk kk
      refine g_pair (st_of hq) ⟨rfl, ?_⟩
      have hpl := naf_le hc (List.mem_of_getElem? hi)
      have hpl' : pl ≤ 30000 := hpl
      have hln := hok.ln
      have hB : (pl : Int).natAbs ≤ 2 ^ 15 := by have h15 : (2 : Nat) ^ 15 = 32768 := (by decide); rw [h15, Int.natAbs_natCast]; omega
      refine (er_tup (ea_two (R := fun v _ => v = .int s) (R' := fun w H3 => ∃ u, NumV K H3 w u ∧ u.can ∧ u.val = e.val + (pl : Int) ∧ u.size ≤ e.size + 40 * (15 + 3 * e.toL.length + 3) ∧ u.height ≤ max e.height 6) (er_is (ev_var rfl)) monoC
        (er_call2 (R1 := fun v H => NumV K H v e) (R2 := fun v _ => v = .int (pl : Int)) (er_var rfl fun H3 e3 => hx.ex (e1.trans (e2.trans e3))) numT.mono (er_is (ev_var rfl)) monoC fun v w H3 e3 g1 g2 => ⟨e, (pl : Int), 15, g1, g2, hok.can, hok.ht, hok.sub, by omega, hB, rfl⟩)
        (fun v Ha Hb e ⟨u, h1, h2⟩ => ⟨u, h1.ex e, h2⟩)) (fun vs Ha Hb e ⟨v, w, h1, h2, u, h3, h4⟩ => ⟨v, w, h1, h2, u, h3.ex e, h4⟩) (fun vs Ha ⟨v, w, h1, _⟩ => by rw [h1]; show 2 ≤ 100000; omega)) H2 (Ex.refl _) _ fun v H3 e3 ⟨p, vs, hv, hp, v', w, g1, g2, u, g3, g4, g5, g6, g7⟩ => kk v H3 e3 ⟨(s, u), ⟨p, w, hv, st_of (by rw [hp, g1, g2]), g3⟩, rfl, g4, g5, (by show u.size ≤ e.size + 40 * (18 + 3 * e.toL.length); omega), g7⟩
    · have hch : ∀ (l : List (Int × Nat)) (ys : List V), ItemsR (fun y : Int × Nat => fun v H => ∃ x : Int × T, TermI K x v H ∧ x.1 = y.1 ∧ x.2.can ∧ x.2.val = e.val + (y.2 : Int) ∧ Near e x.2) l ys H2 → ∃ l' : List (Int × T), ItemsR (TermI K) l' ys H2 ∧ l'.length = l.length ∧ ∀ (i : Nat) (s : Int) (p : Nat) (x : Int × T), l[i]? = some (s, p) → l'[i]? = some x → x.1 = s ∧ x.2.can ∧ x.2.val = e.val + (p : Int) ∧ Near e x.2 := by
        intro l
        induction l with
        | nil => intro ys h; have := List.length_eq_zero_iff.mp h.1; subst this; exact ⟨[], .nil, rfl, fun i s p x h => by simp at h⟩
        | cons y r ih =>
          intro ys h
          cases ys with
          | nil => have := h.1; cases this
          | cons v ys =>
            obtain ⟨l', h1, h2, h3⟩ := ih ys ⟨by have := h.1; simpa using this, fun i z a g1 g2 => h.2 (i + 1) z a (by simpa using g1) (by simpa using g2)⟩
            obtain ⟨x, k1, k2, k3, k4, k5⟩ := h.2 0 v y rfl rfl
            refine ⟨x :: l', ⟨by rw [List.length_cons, List.length_cons, h1.1], fun i z a g1 g2 => ?_⟩, by rw [List.length_cons, List.length_cons, h2], fun i s p z g1 g2 => ?_⟩
            · cases i with
              | zero => simp at g1 g2; subst g1 g2; exact k1
              | succ i => exact h1.2 i z a (by simpa using g1) (by simpa using g2)
            · cases i with
              | zero => simp at g1 g2; subst g1 g2; exact ⟨k2, k3, k4, k5⟩
              | succ i => exact h3 i s p z (by simpa using g1) (by simpa using g2)
      obtain ⟨l', h1, h2, h3⟩ := hch _ _ hit
      exact ⟨p, ys, l', hv, hp, h1, ⟨h2, h3⟩⟩
end Sk
set_option Elab.async false
set_option linter.all false
set_option maxRecDepth 100000
set_option maxHeartbeats 1000000
namespace Sk
open PySem L2 Evl
def cntT (l : List (Int × T)) : Nat := (l.map fun x => x.1.natAbs).sum
theorem cntT_cons (x : Int × T) (l : List (Int × T)) : cntT (x :: l) = x.1.natAbs + cntT l := by unfold cntT; rw [List.map_cons, List.sum_cons]
theorem wt_le_abs : ∀ (k : Nat) (n : Int), n.natAbs ≤ k → wt n ≤ n.natAbs
  | 0, n, h => by
    have : n = 0 := by omega
    subst this; rw [wt_zero]; exact Nat.zero_le _
  | k + 1, n, h => by
    rcases Int.lt_trichotomy n 0 with q | q | q
    · have h1 := wt_le_abs k (n + 1) (by omega)
      have h2 := wt_pred (n + 1)
      have e : n + 1 - 1 = n := by omega
      rw [e] at h2
      omega
    · subst q; rw [wt_zero]; exact Nat.zero_le _
    · have h1 := wt_le_abs k (n - 1) (by omega)
      have h2 := wt_succ (n - 1)
      have e : n - 1 + 1 = n := by omega
      rw [e] at h2
      omega
structure RowOk (rw : List (Int × T)) (many : Nat) : Prop where
  ex : ∀ x ∈ rw, ExpOk x.2
  asc : rw.Pairwise (fun a b => a.2.val ≤ b.2.val)
  tsg : ∀ (i : Nat) (x : Int × T), many ≤ i → rw[i]? = some x → x.1 = 1 ∨ x.1 = -1
  tgap : (rw.drop many).Pairwise (fun a b => a.2.val + 2 ≤ b.2.val)
  cb : ∀ x ∈ rw, x.1.natAbs ≤ 1000
  len : rw.length ≤ 2000
  many_le : many ≤ rw.length
/-- what is found so far, the least first -/
structure Found (rw : List (Int × T)) (F : List (Int × T)) : Prop where
  it : ∀ x ∈ F, (x.1 = 1 ∨ x.1 = -1) ∧ x.2.can ∧ 0 ≤ x.2.val ∧ ∃ y ∈ rw, Near y.2 x.2
  gap : F.Pairwise (fun a b => a.2.val + 2 ≤ b.2.val)
def Settled (rw : List (Int × T)) (u : T) : Prop := u.can ∧ u.val = sumT rw ∧ u.toL.length ≤ cntT rw ∧ ∀ x ∈ u.toL, ∃ y ∈ rw, Near y.2 x.2
theorem found_done {rw F : List (Int × T)} (h : Found rw F) (hs : sumT F = sumT rw) (hc : F.length ≤ cntT rw) : Settled rw (ofL F.reverse) := by
  refine ⟨can_ofL (fun x hx => ?_) ?_, by rw [sumT_ofL, sumT_rev, hs], by rw [toL_ofL, List.length_reverse]; exact hc, fun x hx => ?_⟩
  · have := h.it x (List.mem_reverse.mp hx)
    exact ⟨this.1, this.2.2.1, this.2.1⟩
  · rw [List.pairwise_reverse]
    exact h.gap
  · rw [toL_ofL] at hx
    exact (h.it x (List.mem_reverse.mp hx)).2.2.2
def pSettled (K : PySem.W.Frag) : V → V → Hp → VP → Prop := fun x y H R => ∃ (p : Addr) (ys : List V) (rw : List (Int × T)) (many : Nat), x = .ref p ∧ H p = some (.lst ys) ∧ ItemsR (TermI K) rw ys H ∧ y = .int (many : Int) ∧ RowOk rw many ∧ cntT rw ≤ 50000 ∧
  R = fun v H' => ∃ u, NumV K H' v u ∧ Settled rw u
def sp_settled (K : PySem.W.Frag) : Sp := spF2 (pSettled K)
def t_settled (K : PySem.W.Frag) : TS := (tSeq (tAsg (tLst tNil) (gName 2))
    (tSeq (tAsg (tC (.int 0)) (gName 3))
    (tSeq (tWhile (tTest (tOp xLt (tVar 3) (tVar 1))) (tSeq (tAsg (tOp (rIxL K) (tVar 0) (tVar 3)) (gTup K 2 (gCons (gName 4) (gCons (gName 5) gNil))))
    (tSeq (tAug 3 (tC (.int 1)) (ipI fun i j => i + j))
    (tSeq (tWhile (tTest (tOp xLt (tVar 3) (tCB (rLenS K) (tCons (tVar 0) tNil)))) (tSeq (tAsg (tCall (sp_gap K) [] E0 (tCons (tOp (rIxT K) (tOp (rIxL K) (tVar 0) (tVar 3)) (tC (.int 1))) (tCons (tVar 5) tNil))) (gName 6))
    (tSeq (tIfS (tOr (tTest (tOp xIsN (tVar 6) (tC .non))) (tTest (tOp xGt (tVar 6) (tOp xAdd (tBits (tVar 4)) (tC (.int 1)))))) tBreak tNext)
    (tSeq (tAug 4 (tOp xShl (tOp (rIxT K) (tOp (rIxL K) (tVar 0) (tVar 3)) (tC (.int 0))) (tVar 6)) (ipI fun i j => i + j))
    (tAug 3 (tC (.int 1)) (ipI fun i j => i + j))))))
    (tDrop (tBM K "list" rExtend (tVar 2) (tCons (tCall (sp_terms_at K) [] E0 (tCons (tVar 5) (tCons (tVar 4) tNil))) tNil)))))))
    (tSeq (tDrop (tBM K "list" rExtend (tVar 2) (tCons (tSl (rSlL K) (tVar 0) (tPart (tVar 3)) tNoPart) tNil)))
    (tRet (tThen (tRevL K (tVar 2)) (kTup K)))))))
/-- xs.extend(e), e a list that was just made -/
theorem s_extR {K : PySem.W.Frag} {σ : L2.St} {H : Hp} {te tl : TE} {D : Ends} {R : List V → Hp → Prop} {l : Addr} {xs : List V} (hl : H l = some (.lst xs)) (hv : Ev tl σ H (.ref l)) (h : ER te σ H (fun v H2 => ∃ b zs, v = .ref b ∧ H2 b = some (.lst zs) ∧ R zs H2)) (hz : ∀ zs H2, R zs H2 → xs.length + zs.length ≤ 100000)
    (k : ∀ zs H1, Ex H H1 → R zs H1 → D.nx σ (upd H1 l (.lst (xs ++ zs)))) : tDrop (tBM K "list" rExtend tl (tCons te tNil)) D σ H := hv H (Ex.refl H) _ fun H1 e1 =>
  ⟨Or.inl ⟨rfl, xs, sq_of (e1 l _ hl)⟩, h H1 e1 _ fun v H2 e2 ⟨b, zs, hb, hz2, hR⟩ => ⟨l, b, xs, zs, rfl, by rw [hb], e2 l _ (e1 l _ hl), hz2, sz_of (hz zs H2 hR), k zs H2 (e1.trans e2) hR⟩⟩
def WSettled (K : PySem.W.Frag) (p lf : Addr) (rw : List (Int × T)) (many : Nat) (H0 : Hp) (m : Nat) (σ : L2.St) (H : Hp) : Prop := ∃ (at_ : Nat) (F : List (Int × T)) (fs ys : List V) (z4 z5 z6 : Option V),
  σ = [some (.ref p), some (.int (many : Int)), some (.ref lf), some (.int (at_ : Int)), z4, z5, z6] ∧ m = rw.length - at_ ∧ at_ ≤ rw.length ∧ H0 lf = none ∧ p ≠ lf ∧ Ex H0 H ∧ H lf = some (.lst fs) ∧ ItemsR (TermI K) F fs H ∧ H p = some (.lst ys) ∧ ItemsR (TermI K) rw ys H ∧
  Found rw F ∧ (∀ x ∈ F, ∀ z, rw[at_]? = some z → x.2.val + 2 ≤ z.2.val) ∧ sumT F + sumT (rw.drop at_) = sumT rw ∧ F.length + cntT (rw.drop at_) ≤ cntT rw
theorem drop_cons {α : Type} {l : List α} {i : Nat} {a : α} (h : l[i]? = some a) : l.drop i = a :: l.drop (i + 1) := by
  obtain ⟨g1, g2⟩ := List.getElem?_eq_some_iff.mp h
  rw [List.drop_eq_getElem_cons g1, g2]
theorem asc_at {rw : List (Int × T)} (h : rw.Pairwise (fun a b => a.2.val ≤ b.2.val)) {i j : Nat} {a b : Int × T} (hi : rw[i]? = some a) (hj : rw[j]? = some b) (hij : i ≤ j) : a.2.val ≤ b.2.val := by
  rcases Nat.lt_or_eq_of_le hij with q | q
  · obtain ⟨h1, h2⟩ := List.getElem?_eq_some_iff.mp hi
    obtain ⟨h3, h4⟩ := List.getElem?_eq_some_iff.mp hj
    have := List.pairwise_iff_getElem.mp h i j h1 h3 q
    rw [h2, h4] at this
    exact this
  · subst q; rw [hi] at hj; cases hj; exact Int.le_refl _
theorem pure_settled {K : PySem.W.Frag} {vs : List V} {H : Hp} {Q : VK} {E : XK} (h : sp_settled K vs H Q E) : t_settled K { nx := fun _ H' => Q .non H', rt := Q } (start ["row", "many", "found", "at", "value", "base", "step"] vs) H := by
  obtain ⟨x, y, R, rfl, ⟨p, ys0, rw, many, rfl, hp0, hit0, rfl, hok, hcnt, rfl⟩, k⟩ := h
  refine q_asgL (el_lst ea_nil (by decide)) fun lf H1 hlf e1 h1 => ?_
  have hplf : p ≠ lf := fun e => by rw [e, hlf] at hp0; cases hp0
  refine q_asg ev_c fun H2 e2 => ?_
  refine q_while' (WSettled K p lf rw many H) rw.length ⟨0, [], [], ys0, none, none, none, rfl, rfl, Nat.zero_le _, hlf, hplf, e1.trans e2, e2 lf _ h1, .nil, (e1.trans e2) p _ hp0, hit0.ex (fun x => (termI x).mono) (e1.trans e2), ⟨fun x hx => absurd hx List.not_mem_nil, List.Pairwise.nil⟩, fun x hx => absurd hx List.not_mem_nil, by rw [sumT_nil, List.drop_zero, Int.zero_add], by rw [List.drop_zero]; simp⟩ ?_
  rintro m σ' H' ⟨a0, F, fs, ys, z4, z5, z6, rfl, rfl, ha0, hlf0, hplf, e3, hf, hfi, hpy, hit, hF, hsep, hsum, hcn⟩
  have hyl : ys.length = rw.length := hit.1
  have hlen := hok.len
  refine ⟨decide ((a0 : Int) < (many : Int)), et_test (ev_lt (ev_var rfl) (ev_var rfl)), fun hb H4 e4 => ?_, fun hb H4 e4 => ?_⟩
  · have hlt : a0 < rw.length := by have := of_decide_eq_true hb; have := hok.many_le; omega
    obtain ⟨⟨c0, ex⟩, hget⟩ : ∃ a, rw[a0]? = some a := ⟨_, List.getElem?_eq_getElem hlt⟩
    have hexm : (c0, ex) ∈ rw := List.mem_of_getElem? hget
    have hex : ExpOk ex := hok.ex _ hexm
    obtain ⟨yv, hyv, q, w, hyq, hq, hw⟩ := hit.at hget
    subst hyq
    refine q_unpack2 (K := K) (R := fun v _ => v = .ref q) (er_is (ev_at (ev_var rfl) (ev_var rfl) (sq_of (e4 p _ hpy)) (atI_nat hyv))) fun v H5 e5 hv => ⟨q, .int c0, w, hv, ex_t (e4.trans e5) hq, ?_⟩
    refine q_aug (a := (a0 : Int)) (b := 1) rfl ev_c fun H6 e6 => ?_
    have e46 := e4.trans (e5.trans e6)
    -- what follows the cluster
    have after : ∀ (a1 : Nat) (c : Int) (z6 : Option V) (H7 : Hp), Ex H6 H7 → a0 < a1 → a1 ≤ rw.length → bl c.natAbs ≤ 12 * (a1 - a0) → c * 2 ^ ex.val.toNat + sumT (rw.drop a1) = sumT (rw.drop a0) → wt c + cntT (rw.drop a1) ≤ cntT (rw.drop a0) → (∀ z, rw[a1]? = some z → ex.val + (bl c.natAbs : Int) + 2 ≤ z.2.val) →
        tDrop (tBM K "list" rExtend (tVar 2) (tCons (tCall (sp_terms_at K) [] E0 (tCons (tVar 5) (tCons (tVar 4) tNil))) tNil)) { nx := fun σ2 H2 => ∃ m', m' < rw.length - a0 ∧ WSettled K p lf rw many H m' σ2 H2, rt := Q, bk := tSeq (tDrop (tBM K "list" rExtend (tVar 2) (tCons (tSl (rSlL K) (tVar 0) (tPart (tVar 3)) tNoPart) tNil))) (tRet (tThen (tRevL K (tVar 2)) (kTup K))) { nx := fun _ H' => Q .non H', rt := Q }, ct := fun σ2 H2 => ∃ m', m' < rw.length - a0 ∧ WSettled K p lf rw many H m' σ2 H2 }
          [some (.ref p), some (.int (many : Int)), some (.ref lf), some (.int (a1 : Int)), some (.int c), some w, z6] H7 := by
      intro a1 c z6 H7 e7 h01 h1l hbl hs hwt hnx
      have e47 : Ex H' H7 := e46.trans e7
      have hcb : c.natAbs ≤ 2 ^ 30000 := by
        have h1 := (bl_le_iff c.natAbs 30000).mp (by omega)
        exact Nat.le_of_lt h1
      refine s_extR (R := fun zs H2 => ∃ l, ItemsR (TermI K) l zs H2 ∧ TermsAt ex c l) (e47 lf _ hf) (ev_var rfl) ((er_call2 (R1 := fun v H => NumV K H v ex) (R2 := fun v _ => v = .int c) (er_var rfl fun H8 e8 => hw.ex (e47.trans e8)) numT.mono (er_is (ev_var rfl)) monoC fun v w H8 e8 g1 g2 => ⟨ex, c, g1, hex, g2, hcb, rfl⟩).imp fun v H8 e8 h => by
        obtain ⟨b, zs, l, g1, g3, g4, g5⟩ := h
        exact ⟨b, zs, g1, g3, l, g4, g5⟩) (fun zs H8 ⟨l, g1, g2⟩ => by
        have h1 := g1.1
        rw [g2.len] at h1
        have h2 := hfi.1
        have h3 : (naf c 0).length = wt c := rfl
        omega) fun zs H8 e8 ⟨l, g1, g2⟩ => ?_
      have e48 := e47.trans e8
      have t8 : TEx H8 (upd H8 lf (.lst (fs ++ zs))) := TEx.put (e48 lf _ hf)
      have hpu : (upd H8 lf (.lst (fs ++ zs))) p = some (.lst ys) := by rw [upd_ne hplf]; exact e48 p _ hpy
      refine ⟨rw.length - a1, by omega, a1, F ++ l, fs ++ zs, ys, _, _, _, rfl, rfl, h1l, hlf0, hplf, Ex.mut (e3.trans e48) hlf0, upd_same, (hfi.tex termI ((Ex.t e48).trans t8)).append (g1.tex termI t8), hpu, hit.tex termI ((Ex.t e48).trans t8), ⟨fun x hx => ?_, ?_⟩, fun x hx z hz => ?_, ?_, ?_⟩
      · rcases List.mem_append.mp hx with hx | hx
        · exact hF.it x hx
        · have := g2.mem hx
          exact ⟨this.1, this.2.1, by have := hex.nn; omega, (c0, ex), hexm, this.2.2.2.2⟩
      · refine List.pairwise_append.mpr ⟨hF.gap, g2.gap, fun x hx z hz => ?_⟩
        have h1 := hsep x hx (c0, ex) hget
        have h2 := (g2.mem hz).2.2.1
        have h1' : x.2.val + 2 ≤ ex.val := h1
        omega
      · rcases List.mem_append.mp hx with hx | hx
        · have h1 : x.2.val + 2 ≤ ex.val := hsep x hx (c0, ex) hget
          have h2 : ex.val ≤ z.2.val := asc_at hok.asc hget hz (by omega)
          omega
        · have h1 := (g2.mem hx).2.2.2.1
          have h2 := hnx z hz
          omega
      · rw [sumT_app, g2.sum hex.nn, Int.add_assoc, hs, hsum]
      · rw [List.length_append, g2.len]
        have h3 : (naf c 0).length = wt c := rfl
        omega
    -- the cluster
    refine q_while' (fun m σ H7 => ∃ (a1 : Nat) (c : Int) (z6 : Option V), σ = [some (.ref p), some (.int (many : Int)), some (.ref lf), some (.int (a1 : Int)), some (.int c), some w, z6] ∧ m = rw.length - a1 ∧ a0 < a1 ∧ a1 ≤ rw.length ∧ Ex H6 H7 ∧ bl c.natAbs ≤ 12 * (a1 - a0) ∧ c * 2 ^ ex.val.toNat + sumT (rw.drop a1) = sumT (rw.drop a0) ∧ wt c + cntT (rw.drop a1) ≤ cntT (rw.drop a0)) (rw.length - (a0 + 1))
      ⟨a0 + 1, c0, z6, rfl, rfl, Nat.lt_succ_self _, hlt, Ex.refl _, ?_, ?_, ?_⟩ ?_
    · have h1 : c0.natAbs ≤ 1000 := hok.cb _ hexm
      have h2 := (bl_le_iff c0.natAbs 12).mpr (Nat.lt_of_le_of_lt h1 (by decide))
      omega
    · rw [drop_cons hget, sumT_cons]
    · rw [drop_cons hget, cntT_cons]
      have := wt_le_abs _ c0 (Nat.le_refl _)
      show wt c0 + _ ≤ c0.natAbs + _
      omega
    rintro m σ H7 ⟨a1, c, z6, rfl, rfl, h01, h1l, e7, hbl, hs, hwt⟩
    have e47 : Ex H' H7 := e46.trans e7
    refine ⟨decide ((a1 : Int) < (ys.length : Int)), et_test (ev_lt (ev_var rfl) (ev_lenL (ev_var rfl) (sq_of (e47 p _ hpy)))), fun hb2 H8 e8 => ?_, fun hb2 H8 e8 => ?_⟩
    · have hlt1 : a1 < rw.length := by have := of_decide_eq_true hb2; omega
      obtain ⟨⟨c1, ey⟩, hget1⟩ : ∃ a, rw[a1]? = some a := ⟨_, List.getElem?_eq_getElem hlt1⟩
      have hm1 : (c1, ey) ∈ rw := List.mem_of_getElem? hget1
      have hey : ExpOk ey := hok.ex _ hm1
      obtain ⟨yv1, hyv1, q1, w1, hyq1, hq1, hw1⟩ := hit.at hget1
      subst hyq1
      have e48 := e47.trans e8
      have hle : ex.val ≤ ey.val := asc_at hok.asc hget hget1 (by omega)
      refine q_asgR (R := GapR ey.val ex.val) (er_call2 (R1 := fun v H => NumV K H v ey) (R2 := fun v H => NumV K H v ex) (er_ev (ev_atT (ev_at (ev_var rfl) (ev_var rfl) (sq_of (e48 p _ hpy)) (atI_nat hyv1)) ev_c (ex_t e48 hq1) (at_of (j := 1) rfl rfl)) fun H9 e9 => hw1.ex (e48.trans e9)) numT.mono (er_var rfl fun H9 e9 => hw.ex (e48.trans e9)) numT.mono fun v v' H9 e9 g1 g2 => ⟨ey, ex, g1, g2, hey.can, hex.can, by have := hey.ht; omega, by have := hex.ht; omega, by have := hey.sz; omega, by have := hex.sz; omega, by have := hey.ln; omega, by have := hex.ln; omega, rfl⟩) fun v H9 e9 hg => ?_
      have e79 := e8.trans e9
      rcases hg with ⟨rfl, hfar⟩ | rfl
      · refine q_when (b := true) (et_or (a := true) (b := false) (et_test (ev_is (ev_isN (ev_var rfl)) rfl)) (fun h => by cases h)) (fun _ H10 e10 => ?_) (fun h => by cases h)
        unfold tBreak
        dsimp only
        refine after a1 c _ H10 (e7.trans (e79.trans e10)) h01 h1l hbl hs hwt fun z hz => ?_
        rw [hget1] at hz
        cases hz
        have h64 : (30000 : Nat) ≤ 2 ^ 64 := by decide
        show ex.val + (bl c.natAbs : Int) + 2 ≤ ey.val
        omega
      · refine q_when (b := decide ((bl c.natAbs : Int) + 1 < ey.val - ex.val)) (et_is (et_or (a := false) (et_test (ev_is (ev_isN (ev_var rfl)) rfl)) fun _ => et_test (ev_gt (ev_var rfl) (ev_add (ev_is (ev_bits (ev_var rfl)) (by rw [intBits_abs])) ev_c))) (Bool.false_or _)) (fun hb3 H10 e10 => ?_) (fun hb3 H10 e10 => ?_)
        · have := of_decide_eq_true hb3
          unfold tBreak
          dsimp only
          refine after a1 c _ H10 (e7.trans (e79.trans e10)) h01 h1l hbl hs hwt fun z hz => ?_
          rw [hget1] at hz
          cases hz
          show ex.val + (bl c.natAbs : Int) + 2 ≤ ey.val
          omega
        · have hstep := of_decide_eq_false hb3
          have hc1 : c1.natAbs ≤ 1000 := hok.cb _ hm1
          have e410 := e48.trans (e9.trans e10)
          have hcp : CPow c1 (ey.val - ex.val) := ⟨by omega, by omega, Nat.lt_of_le_of_lt hc1 (by decide)⟩
          refine q_aug (a := c) (b := c1 * 2 ^ (ey.val - ex.val).toNat) rfl (ev_shl (ev_atT (ev_at (ev_var rfl) (ev_var rfl) (sq_of (e410 p _ hpy)) (atI_nat hyv1)) ev_c (ex_t e410 hq1) (at_of (j := 0) rfl rfl)) (ev_var rfl) hcp) fun H11 e11 => ?_
          refine s_aug (a := (a1 : Int)) (b := 1) rfl ev_c fun H12 e12 => ⟨rw.length - (a1 + 1), by omega, a1 + 1, c + c1 * 2 ^ (ey.val - ex.val).toNat, _, rfl, rfl, by omega, hlt1, e7.trans (e79.trans (e10.trans (e11.trans e12))), ?_, ?_, ?_⟩
          · refine Nat.le_trans ((bl_le_iff _ (bl c.natAbs + 12)).mpr ?_) (by omega)
            have h1 : c.natAbs < 2 ^ bl c.natAbs := (bl_le_iff _ _).mp (Nat.le_refl _)
            have h2 : 2 ^ (ey.val - ex.val).toNat ≤ 2 ^ (bl c.natAbs + 1) := Nat.pow_le_pow_right (by decide) (by omega)
            have h3 : (c1 * 2 ^ (ey.val - ex.val).toNat).natAbs ≤ 1000 * 2 ^ (bl c.natAbs + 1) := by
              rw [Int.natAbs_mul, Int.natAbs_pow]
              exact Nat.mul_le_mul hc1 h2
            have h4 := Int.natAbs_add_le c (c1 * 2 ^ (ey.val - ex.val).toNat)
            rw [Nat.pow_succ] at h3
            rw [Nat.pow_add]
            have h12 : (2 : Nat) ^ 12 = 4096 := by decide
            rw [h12]
            generalize 2 ^ bl c.natAbs = P at *
            omega
          · rw [← hs, drop_cons hget1, sumT_cons, Int.add_mul, Int.mul_assoc, ← Int.pow_add]
            have : (ey.val - ex.val).toNat + ex.val.toNat = ey.val.toNat := by have := hex.nn; omega
            rw [this]
            show c * 2 ^ ex.val.toNat + c1 * 2 ^ ey.val.toNat + _ = c * 2 ^ ex.val.toNat + (c1 * 2 ^ ey.val.toNat + _)
            omega
          · rw [drop_cons hget1, cntT_cons] at hwt
            have h1 := wt_add c (c1 * 2 ^ (ey.val - ex.val).toNat)
            have h2 : wt (c1 * 2 ^ (ey.val - ex.val).toNat) = wt c1 := by rw [Int.mul_comm]; exact wt_mul_pow c1 _
            have h3 := wt_le_abs _ c1 (Nat.le_refl _)
            have h4 : wt c + (c1.natAbs + cntT (rw.drop (a1 + 1))) ≤ cntT (rw.drop a0) := hwt
            omega
    · have hend : a1 = rw.length := by have := of_decide_eq_false hb2; omega
      refine after a1 c _ H8 (e7.trans e8) h01 h1l hbl hs hwt fun z hz => ?_
      have := (List.getElem?_eq_some_iff.mp hz).1
      omega
  · have hge : many ≤ a0 := by have := of_decide_eq_false hb; omega
    have hF' : Found rw (F ++ rw.drop a0) := by
      refine ⟨fun x hx => ?_, List.pairwise_append.mpr ⟨hF.gap, ?_, fun x hx z hz => ?_⟩⟩
      · rcases List.mem_append.mp hx with hx | hx
        · exact hF.it x hx
        · obtain ⟨i, hi⟩ := List.mem_iff_getElem?.mp hx
          rw [List.getElem?_drop] at hi
          have hm := List.mem_of_getElem? hi
          have hx' := hok.ex _ hm
          exact ⟨hok.tsg _ _ (by omega) hi, hx'.can, hx'.nn, x, hm, Near.refl _⟩
      · have h1 := hok.tgap
        have h2 : rw.drop a0 = (rw.drop many).drop (a0 - many) := by rw [List.drop_drop]; congr 1; omega
        rw [h2]
        exact h1.sublist (List.drop_sublist _ _)
      · obtain ⟨i, hi⟩ := List.mem_iff_getElem?.mp hz
        rw [List.getElem?_drop] at hi
        have hlt : a0 < rw.length := by have := (List.getElem?_eq_some_iff.mp hi).1; omega
        have h0 : rw[a0]? = some rw[a0] := List.getElem?_eq_getElem hlt
        have h1 := hsep x hx _ h0
        have h2 := asc_at hok.asc h0 hi (by omega)
        omega
    have hcF : (F ++ rw.drop a0).length ≤ cntT rw := by
      rw [List.length_append]
      have : ∀ l : List (Int × T), (∀ x ∈ l, x.1 = 1 ∨ x.1 = -1) → l.length = cntT l := by
        intro l
        induction l with
        | nil => intro _; rfl
        | cons a r ih =>
          intro h
          rw [cntT_cons, ← ih fun x hx => h x (List.mem_cons_of_mem _ hx), List.length_cons]
          rcases h a List.mem_cons_self with q | q <;> rw [q] <;> simp <;> omega
      have h1 := this (rw.drop a0) fun x hx => by
        obtain ⟨i, hi⟩ := List.mem_iff_getElem?.mp hx
        rw [List.getElem?_drop] at hi
        exact hok.tsg _ _ (by omega) hi
      omega
    have hcut : cutV ys (some (a0 : Int)) none = ys.drop a0 := by
      unfold cutV HT.sIx
      simp only
      rw [if_neg (by omega), Int.toNat_natCast, Nat.min_eq_left (by omega), List.take_of_length_le (by rw [List.length_drop]; exact Nat.le_refl _)]
    show tSeq _ _ _ _ _
    refine s_extR (D := { nx := tRet (tThen (tRevL K (tVar 2)) (kTup K)) { nx := fun _ H' => Q .non H', rt := Q }, rt := Q }) (R := fun zs H2 => zs = ys.drop a0) (e4 lf _ hf) (ev_var rfl) (fun H5 e5 Q' q' => el_sl (ev_var rfl) (eo_some (ev_var rfl)) eo_none (sq_of (e4 p _ hpy)) H5 e5 _ fun r H6 _ e6 h6 => q' _ _ e6 ⟨r, _, rfl, h6, hcut⟩) (fun zs H5 h => by
      rw [h, List.length_drop]
      have h1 := hfi.1
      rw [List.length_append] at hcF
      omega) fun zs H5 e5 hz => ?_
    subst hz
    have e45 := e4.trans e5
    have t5 : TEx H5 (upd H5 lf (.lst (fs ++ ys.drop a0))) := TEx.put (e45 lf _ hf)
    have hitF : ItemsR (TermI K) (F ++ rw.drop a0) (fs ++ ys.drop a0) (upd H5 lf (.lst (fs ++ ys.drop a0))) := (hfi.tex termI ((Ex.t e45).trans t5)).append ((hit.drop a0).tex termI ((Ex.t e45).trans t5))
    refine s_retR (er_tupleOf (R := fun ws H6 => ItemsR (TermI K) (F ++ rw.drop a0) ws.reverse H6) ((er_revL (R := fun ws H6 => ItemsR (TermI K) (F ++ rw.drop a0) ws H6) (er_ev (ev_var rfl) fun H6 e6 => ⟨lf, _, rfl, sq_of (e6 lf _ upd_same), hitF.ex (fun x => (termI x).mono) e6⟩) (fun ws Ha Hb e h => h.ex (fun x => (termI x).mono) e)).imp fun v H6 e6 ⟨q, ws, g1, g2, g3⟩ => ⟨q, _, g1, g2, by rw [List.reverse_reverse]; exact g3⟩) (fun ws Ha Hb e h => h.ex (fun x => (termI x).mono) e)) fun v H6 e6 ⟨q, ws, hv, g1, g2⟩ => k v H6 ((Ex.mut (e3.trans e45) hlf0).trans e6) ⟨ofL (F ++ rw.drop a0).reverse, ?_, found_done hF' (by rw [sumT_app, hsum]) hcF⟩
    rw [hv]
    have := g2.rev
    rw [List.reverse_reverse] at this
    exact NumV.mk (st_of g1) (terms_items this)
end Sk
set_option Elab.async false
set_option linter.all false
set_option maxRecDepth 100000
set_option maxHeartbeats 1000000
namespace Sk
open PySem PySem.Spec PyProof.Rows HT L2 Evl
theorem adjust_rev (n : Nat) : Builtin.Slice.sliceAdjust none none (-1) (n : Int) = ((n : Int) - 1, -1) := by
  unfold Builtin.Slice.sliceAdjust
  simp
theorem places_rev (n : Nat) : Builtin.Slice.slicePlaces ((n : Int) - 1) (-1) (-1) = n := by
  unfold Builtin.Slice.slicePlaces
  simp
  split <;> omega
theorem pick_rev (xs : Array Value) : ((List.range xs.size).filterMap fun (m : Nat) => xs[((xs.size : Int) - 1 + (m : Int) * (-1)).toNat]?).toArray = xs.toList.reverse.toArray := by
  congr 1
  rcases Nat.eq_zero_or_pos xs.size with h0 | h0
  · have : xs.toList = [] := List.eq_nil_of_length_eq_zero (by rw [Array.length_toList]; exact h0)
    rw [h0, this]; rfl
  have e : (fun (m : Nat) => xs[((xs.size : Int) - 1 + (m : Int) * (-1)).toNat]?) = fun m => some (xs[xs.size - 1 - m]'(by omega)) := by
    funext m
    have h1 : ((xs.size : Int) - 1 + (m : Int) * (-1)).toNat = xs.size - 1 - m := by omega
    rw [h1, Array.getElem?_eq_getElem (by omega)]
  rw [e]
  have e2 : (List.range xs.size).filterMap (fun m => some (xs[xs.size - 1 - m]'(by omega))) = (List.range xs.size).map (fun m => xs[xs.size - 1 - m]'(by omega)) := by
    rw [← List.filterMap_eq_map]; rfl
  rw [e2]
  apply List.ext_getElem?
  intro i
  rw [List.getElem?_map]
  rcases Nat.lt_or_ge i xs.size with h | h
  · rw [List.getElem?_range h, List.getElem?_reverse (by simpa using h), Option.map_some, Array.length_toList, Array.getElem?_toList, Array.getElem?_eq_getElem (by omega)]
  · rw [List.getElem?_eq_none (by rw [List.length_range]; exact h), List.getElem?_eq_none (by rw [List.length_reverse]; simpa using h)]
    rfl
section
variable {prog : Program} {w : World} {A : Around} {E : Value → Shared → Prop} {s : Shared}
theorem sliceApplied_rev {sl : Addr} {vs : Value} {n : Nat} {Q : Int × Int × Nat → Shared → Prop} (hs : s.heap.IsSliceOf sl .none .none vs) (ps : IsPart vs (some (-1)))
    (h : Q ((n : Int) - 1, -1, n) s) : wpAny (model prog w) A (Builtin.Slice.sliceApplied (.ref sl) (pure (n : Int))) Q E s := by
  obtain ⟨os, hos, hcs, hds⟩ := id hs
  unfold Builtin.Slice.sliceApplied Builtin.Slice.sliceFields
  refine wpAny_bind (wpAny_bind (wpAny_field hos hds (x := .none) rfl (wpAny_bind (wpAny_field hos hds (x := .none) rfl (wpAny_bind (wpAny_field hos hds (x := vs) rfl (wpAny_pure ?_)))))))
  refine wpAny_bind (slicePart_ ps ?_)
  show wpAny _ _ (if ((-1 : Int) == 0) = true then _ else _) _ _ s
  rw [if_neg (by decide)]
  refine wpAny_bind (slicePart_ .none (wpAny_bind (slicePart_ .none (wpAny_bind (wpAny_pure ?_)))))
  show wpAny _ _ (match Builtin.Slice.sliceAdjust none none (-1) (n : Int) with | (lo, hi) => pure (lo, (-1 : Int), Builtin.Slice.slicePlaces lo hi (-1))) _ _ s
  rw [adjust_rev n]
  show wpAny _ _ (pure ((n : Int) - 1, (-1 : Int), Builtin.Slice.slicePlaces ((n : Int) - 1) (-1) (-1))) _ _ s
  rw [places_rev]
  exact wpAny_pure h
theorem getItem_tuple_rev {t sl : Addr} {items : Array Value} {vs : Value} {Q : Value → Shared → Prop} (ht : IsTup s.heap t items) (hs : s.heap.IsSliceOf sl .none .none vs) (ps : IsPart vs (some (-1)))
    (h : Q (.ref s.heap.objs.size) { s with heap := s.heap.push { cls := .type "tuple", data := .seq items.toList.reverse.toArray } })
    (hsz : items.size ≤ sizeLine) : wpAny (model prog w) A (getItem (.ref t) (.ref sl)) Q E s := by
  have htake : sizeOk (.seq items.toList.reverse.toArray) := by
    show items.toList.reverse.toArray.size ≤ sizeLine
    rw [List.size_toArray, List.length_reverse, Array.length_toList]
    exact hsz
  obtain ⟨os, hos, hcs, hds⟩ := id hs
  have hTs : s.TypeIs (.ref sl) "slice" := ⟨os, hos, hcs⟩
  unfold getItem
  try with_reducible refine wpAny_holding ?_
  first | refine wpAny_bind (wpAny_pure ?_) | skip
  refine wpAny_bind (wpAny_sequenceKey ht.typeIs (by decide) ?_)
  refine wpAny_bind (wpAny_callSpecial?_slot (name := Str.ofString "__getitem__") ht.typeIs PyProof.Rows.slot_tuple_getitem
    (wpAny_call_entry PyProof.Rows.slot_tuple_getitem ht.typeIs entry_tuple_getitem ?_ (args_tuple_getitem _ _)))
  show wpAny _ _ (Builtin.Tuple.tupleItemsOf (.ref t) >>= _) _ _ s
  refine wpAny_bind (tupleItemsOf_ ht ?_)
  refine wpAny_bind (wpAny_typeOf hTs ?_)
  rw [if_pos (by decide)]
  refine wpAny_bind (sliceApplied_rev hs ps ?_)
  have hno : ¬ ((((items.size : Int) - 1) == 0 && (-1 : Int) == 1 && items.size == items.size) = true) := by
    intro q
    rw [Bool.and_eq_true, Bool.and_eq_true] at q
    exact absurd q.1.2 (by decide)
  show wpAny _ _ (if (((items.size : Int) - 1) == 0 && (-1 : Int) == 1 && items.size == items.size) = true then _ else _) _ _ s
  rw [if_neg hno, pick_rev]
  first
    | exact wpAny_bind (m := Builtin.Tuple.tupleExact _) (wpAny_newObj_type (wpAny_pure ⟨_, rfl, wpAny_pure h⟩) htake)
    | exact wpAny_bind (m := Builtin.Tuple.tupleExact _) (wpAny_newObj_type (wpAny_bind (wpAny_pure (wpAny_pure ⟨_, rfl, wpAny_pure h⟩))) htake)
    | exact wpAny_bind (wpAny_bind (m := Builtin.Tuple.tupleExact _) (wpAny_newObj_type (wpAny_pure (wpAny_pure ⟨_, rfl, wpAny_pure h⟩)) htake))
    | exact wpAny_bind (wpAny_bind (m := Builtin.Tuple.tupleExact _) (wpAny_newObj_type (wpAny_pure ⟨_, rfl, wpAny_pure h⟩) htake))
end
def tRevT (K : PySem.W.Frag) (te : TE) : TE := fun σ H Q => te σ H fun x H1 => ∃ a xs, x = .ref a ∧ SqT K H1 a xs ∧ ∀ p, H1 p = none → Q (.ref p) (upd H1 p (.tup xs.reverse))
theorem pe_revT {X : Cx} {e : Expr} {te : TE} {k : Nat} {p1 p2 p3 pos : Pos} (he : PE X e te) : PE X (.Subscript e (.Slice none none (some (.UnaryOp .USub (.Constant (.int 1) k p1) p2)) p3) pos) (tRevT X.K te) := by
  refine ⟨fun pins s σ H Q I h => ?_⟩
  refine Subscript_ (thn (he.run pins s σ H _ I h) fun v s1 ⟨x, H1, I1, r1, q1⟩ => ?_)
  obtain ⟨a, xs, ex, hx, q⟩ := q1
  subst ex
  cases r1
  have hst : PO X (some (.UnaryOp .USub (.Constant (.int 1) k p1) p2)) (tPart (tUn (rU fun i => .int (-i)) (tC (.int 1)))) := po_some (pe_un un_neg pe_int)
  refine wpAny_Slice (thn (po_none.run pins s1 σ H1 (fun o H2 => o = none ∧ H2 = H1) I1 ⟨rfl, rfl⟩) fun vl s2 ⟨l, H2, I2, pl, el, e2⟩ => ?_)
  subst el e2
  refine thn (po_none.run pins s2 σ H2 (fun o H3 => o = none ∧ H3 = H2) I2 ⟨rfl, rfl⟩) fun vu s3 ⟨u, H3, I3, pu, eu, e3⟩ => ?_
  subst eu e3
  refine thn (hst.run pins s3 σ H3 (fun o H4 => o = some (-1) ∧ H4 = H3) I3 ⟨1, rfl, -1, rfl, rfl, rfl⟩) fun vs s4 ⟨o, H4, I4, ps, eo, e4⟩ => ?_
  subst eo e4
  cases pl
  cases pu
  have I5 : Inv X pins σ H4 { s4 with heap := s4.heap.push { cls := .type "slice", data := .fields #[.none, .none, vs] } } := I4.kept (t' := s4.toks) fun b ob q => Heap.get?_push_of_some _ q
  obtain ⟨its, r, ht, hz⟩ := I5.tuple hx
  have hlen := r.length
  show wpAny (model X.prog X.w) X.A (subscriptTail e (.Slice none none (some (.UnaryOp .USub (.Constant (.int 1) k p1) p2)) p3) (.ref a) (.ref s4.heap.objs.size)) (EP X pins σ Q) X.xe { s4 with heap := s4.heap.push { cls := .type "slice", data := .fields #[.none, .none, vs] } }
  refine tail_any (ops := [.ref a, .ref s4.heap.objs.size]) ht.typeIs (PyProof.Rows.slot_tuple_getitem.lookup) ?_ (by with_unfolding_all rfl)
  refine getItem_tuple_rev ht (Heap.IsSliceOf.new _ .none .none vs) ps ?_ (by rw [List.size_toArray]; omega)
  refine ⟨.ref _, _, I5.laid (t' := s4.toks) (o := .tup xs.reverse) (fun b ob q => Heap.get?_push_of_some _ q) (Nat.le_refl _) ?_, rfl, q _ (I5.hok.fresh (Nat.le_refl _))⟩
  exact ⟨by rw [List.length_reverse]; exact hz, _, r.reverse, _, Heap.get?_push_size _ rfl, rfl, 0, by simp⟩
/-- reversed -/
theorem er_revT {K : PySem.W.Frag} {σ : L2.St} {H : Hp} {te : TE} {R : List V → Hp → Prop} (h : ER te σ H (fun v H2 => ∃ p ys, v = .ref p ∧ SqT K H2 p ys ∧ R ys H2)) (m : MonoL R) : ER (tRevT K te) σ H (fun v H2 => ∃ p ys, v = .ref p ∧ SqT K H2 p ys.reverse ∧ R ys H2) := fun H1 e Q q =>
  h H1 e _ fun v H2 e2 ⟨p, ys, h1, h2, h3⟩ => ⟨p, ys, h1, h2, fun r hr => q _ _ (e2.trans (Ex.new hr)) ⟨r, ys, rfl, st_of upd_same, m ys _ _ (Ex.new hr) h3⟩⟩
end Sk
set_option Elab.async false
set_option linter.all false
set_option maxRecDepth 100000
set_option maxHeartbeats 1000000
namespace Sk
open PySem L2 Evl
theorem within_bound : ∀ {t : T} {b : Nat} {q : Int}, t.can → t.within b = some q → q.natAbs ≤ 2 ^ (b + 1)
  | .nil, b, q, _, h => by
    rw [T.within] at h
    cases h
    exact Nat.zero_le _
  | .cons s e r, b, q, hc, h => by
    have hv := within_val _ _ _ h
    rw [T.within] at h
    cases hp : e.within (bl b) with
    | none => rw [hp] at h; cases h
    | some p =>
      rw [hp] at h
      have hpe := within_val _ _ _ hp
      by_cases hpb : p > (b : Int)
      · simp only [if_pos hpb] at h; cases h
      · have h1 := (can_bounds hc).1
        have hl : (T.cons s e r).lead = e.val := rfl
        rw [hl] at h1
        have he : e.val ≤ (b : Int) := by omega
        have h2 : (2 : Int) ^ (e.val + 2).toNat ≤ 2 ^ (b + 2) := pow_leI (by omega)
        have h3 : (2 : Int) ^ (b + 2) = 2 * 2 ^ (b + 1) := by rw [Int.pow_succ 2 (b + 1)]; omega
        have h4 : ((2 ^ (b + 1) : Nat) : Int) = (2 : Int) ^ (b + 1) := by push_cast; rfl
        have h5 : (0 : Int) ≤ 2 ^ (b + 1) := Int.le_of_lt (Int.pow_pos (by decide))
        omega
/-- two rows on the way into one, the least first -/
structure Mrg (A B : List (Int × T)) (i j : Nat) (rw : List (Int × T)) : Prop where
  mem : ∀ x ∈ rw, x ∈ A ∨ x ∈ B
  asc : rw.Pairwise (fun a b => a.2.val ≤ b.2.val)
  le : ∀ x ∈ rw, ∀ y, y ∈ A.take i ∨ y ∈ B.take j → x.2.val ≤ y.2.val
  sum : sumT rw + sumT (A.take i) + sumT (B.take j) = sumT A + sumT B
  len : rw.length + i + j = A.length + B.length
theorem Mrg.start (A B : List (Int × T)) : Mrg A B A.length B.length [] := ⟨fun x hx => absurd hx List.not_mem_nil, List.Pairwise.nil, fun x hx => absurd hx List.not_mem_nil, by rw [List.take_length, List.take_length, sumT_nil]; omega, by rw [List.length_nil]; omega⟩
theorem Mrg.swap {A B rw} {i j : Nat} (h : Mrg A B i j rw) : Mrg B A j i rw := ⟨fun x hx => (h.mem x hx).symm, h.asc, fun x hx y hy => h.le x hx y hy.symm, by have := h.sum; omega, by have := h.len; omega⟩
theorem Mrg.left {A B rw} {i j : Nat} {x : Int × T} (h : Mrg A B (i + 1) j rw) (hd : A.Pairwise (fun a b => b.2.val + 2 ≤ a.2.val)) (hx : A[i]? = some x) (hB : ∀ y ∈ B.take j, x.2.val ≤ y.2.val) : Mrg A B i j (rw ++ [x]) := by
  have ht := take_snoc hx
  have hxm : x ∈ A.take (i + 1) := by rw [ht]; simp
  have hp : (A.take i ++ [x]).Pairwise (fun a b => b.2.val + 2 ≤ a.2.val) := by rw [← ht]; exact hd.sublist (List.take_sublist _ _)
  refine ⟨fun y hy => ?_, ?_, fun z hz y hy => ?_, ?_, ?_⟩
  · rcases List.mem_append.mp hy with q | q
    · exact h.mem y q
    · rw [List.mem_singleton.mp q]; exact .inl (List.mem_of_getElem? hx)
  · rw [List.pairwise_append]
    exact ⟨h.asc, List.pairwise_singleton _ _, fun a ha b hb => by rw [List.mem_singleton.mp hb]; exact h.le a ha x (.inl hxm)⟩
  · rcases List.mem_append.mp hz with q | q
    · exact h.le z q y (hy.imp (fun k => by rw [ht]; exact List.mem_append_left _ k) id)
    · rw [List.mem_singleton.mp q]
      rcases hy with k | k
      · have := (List.pairwise_append.mp hp).2.2 y k x (List.mem_singleton.mpr rfl)
        omega
      · exact hB y k
  · have h1 := h.sum
    rw [ht, sumT_app] at h1
    rw [sumT_app]
    omega
  · have := h.len
    rw [List.length_append, List.length_singleton]
    omega
theorem cntT_ones : ∀ {l : List (Int × T)}, (∀ x ∈ l, x.1 = 1 ∨ x.1 = -1) → cntT l = l.length
  | [], _ => rfl
  | x :: l, h => by
    rw [cntT_cons, cntT_ones fun y hy => h y (List.mem_cons_of_mem _ hy), List.length_cons]
    have := h x (List.mem_cons_self ..)
    omega
theorem Mrg.done {A B rw} {i j : Nat} (h : Mrg A B i j rw) (hij : i = 0 ∨ j = 0) (hA : A.Pairwise (fun a b => b.2.val + 2 ≤ a.2.val)) (hB : B.Pairwise (fun a b => b.2.val + 2 ≤ a.2.val)) (hx : ∀ x, x ∈ A ∨ x ∈ B → (x.1 = 1 ∨ x.1 = -1) ∧ ExpOk x.2) (hl : A.length + B.length ≤ 1400) :
    RowOk (rw ++ (A.take i ++ B.take j).reverse) rw.length ∧ cntT (rw ++ (A.take i ++ B.take j).reverse) ≤ 50000 ∧ sumT (rw ++ (A.take i ++ B.take j).reverse) = sumT A + sumT B := by
  have hmem : ∀ x ∈ rw ++ (A.take i ++ B.take j).reverse, x ∈ A ∨ x ∈ B := fun x hx' => by
    rcases List.mem_append.mp hx' with q | q
    · exact h.mem x q
    · rcases List.mem_append.mp (List.mem_reverse.mp q) with k | k
      · exact .inl (List.mem_of_mem_take k)
      · exact .inr (List.mem_of_mem_take k)
  have hdesc : (A.take i ++ B.take j).Pairwise (fun a b => b.2.val + 2 ≤ a.2.val) := by
    rcases hij with q | q
    · rw [q, List.take_zero, List.nil_append]; exact hB.sublist (List.take_sublist _ _)
    · rw [q, List.take_zero, List.append_nil]; exact hA.sublist (List.take_sublist _ _)
  have hlen : (rw ++ (A.take i ++ B.take j).reverse).length ≤ 1400 := by
    have := h.len
    rw [List.length_append, List.length_reverse, List.length_append, List.length_take, List.length_take]
    omega
  refine ⟨⟨fun x hx' => (hx x (hmem x hx')).2, ?_, fun n x _ hn => (hx x (hmem x (List.mem_of_getElem? hn))).1, ?_, fun x hx' => ?_, by omega, by rw [List.length_append]; omega⟩, ?_, ?_⟩
  · rw [List.pairwise_append, List.pairwise_reverse]
    exact ⟨h.asc, hdesc.imp fun {a b} k => by omega, fun a ha b hb => h.le a ha b (List.mem_append.mp (List.mem_reverse.mp hb))⟩
  · rw [List.drop_left, List.pairwise_reverse]
    exact hdesc
  · have := (hx x (hmem x hx')).1; omega
  · rw [cntT_ones fun x hx' => (hx x (hmem x hx')).1]; omega
  · rw [sumT_app, sumT_rev, sumT_app]
    have := h.sum
    omega
/-- what plus takes -/
structure PlOk (t : T) : Prop where
  can : t.can
  ht : t.height ≤ 43
  sz : ∀ x ∈ t.toL, x.2.size < 80000
  ln : t.toL.length ≤ 700
  sub : ∀ x ∈ t.toL, x.2.toL.length ≤ 800
theorem nn_of_ex : ∀ {t : T}, t.can → (∀ x ∈ t.toL, x.2.size < 100000) → t.nn
  | .nil, _, _ => True.intro
  | .cons s e r, h, hz => by
    have h0 : e.size < 100000 := hz (s, e) List.mem_cons_self
    have h1 := len_size e
    exact ⟨⟨h.1.1, h.1.2.1, by omega, h.2.1⟩, nn_of_can h.2.1 h0, nn_of_ex h.2.2 fun x hx => hz x (List.mem_cons_of_mem _ hx)⟩
theorem sz_ex {t : T} {m : Nat} (h : t.size < m) : ∀ x ∈ t.toL, x.2.size < m := fun x hx => Nat.lt_trans (mem_size hx).1 h
theorem PlOk.nn {t : T} (h : PlOk t) : t.nn := nn_of_ex h.can fun x hx => Nat.lt_trans (h.sz x hx) (by decide)
theorem PlOk.ex {t : T} (h : PlOk t) : ∀ x ∈ t.toL, (x.1 = 1 ∨ x.1 = -1) ∧ ExpOk x.2 := fun x hx => by
  have h1 := can_toL h.can x hx
  have h2 := mem_size hx
  have := h.ht
  have := h.sz x hx
  exact ⟨h1.1, ⟨h1.2.2, h1.2.1, by omega, by omega, h.sub x hx⟩⟩
def pPlusB (K : PySem.W.Frag) : V → V → Hp → VP → Prop := fun x y H R => ∃ (t u : T), NumV K H x t ∧ NumV K H y u ∧ PlOk t ∧ PlOk u ∧ R = fun w H' => ∃ r, NumV K H' w r ∧ r.can ∧ r.val = t.val + u.val
def sp_plus (K : PySem.W.Frag) : Sp := spF2 (pPlusB K)
def t_plus (K : PySem.W.Frag) : TS := (tSeq (tAsg (tCall (sp_value_within K 45) [] E0 (tCons (tVar 1) (tCons (tC (.int 512)) tNil))) (gName 2))
    (tSeq (tIfS (tTest (tOp xNotN (tVar 2) (tC .non))) (tRet (tCall (sp_plus_small K) [] E0 (tCons (tVar 0) (tCons (tVar 2) tNil)))) tNext)
    (tSeq (tAsg (tCall (sp_value_within K 45) [] E0 (tCons (tVar 0) (tCons (tC (.int 512)) tNil))) (gName 2))
    (tSeq (tIfS (tTest (tOp xNotN (tVar 2) (tC .non))) (tRet (tCall (sp_plus_small K) [] E0 (tCons (tVar 1) (tCons (tVar 2) tNil)))) tNext)
    (tSeq (tAsg (tLst tNil) (gName 3))
    (tSeq (tAsg (tCB (rLenS K) (tCons (tVar 0) tNil)) (gName 4))
    (tSeq (tAsg (tCB (rLenS K) (tCons (tVar 1) tNil)) (gName 5))
    (tSeq (tWhile (tAnd (tTest (tOp xGt (tVar 4) (tC (.int 0)))) (tTest (tOp xGt (tVar 5) (tC (.int 0))))) (tIfS (tTest (tOp xLt (tCall (sp_order K) [] E0 (tCons (tOp (rIxT K) (tOp (rIxT K) (tVar 0) (tOp xSub (tVar 4) (tC (.int 1)))) (tC (.int 1))) (tCons (tOp (rIxT K) (tOp (rIxT K) (tVar 1) (tOp xSub (tVar 5) (tC (.int 1)))) (tC (.int 1))) tNil))) (tC (.int 0)))) (tSeq (tAug 4 (tC (.int 1)) (ipI fun i j => i - j))
    (tDrop (tBM K "list" rAppend (tVar 3) (tCons (tOp (rIxT K) (tVar 0) (tVar 4)) tNil)))) (tSeq (tAug 5 (tC (.int 1)) (ipI fun i j => i - j))
    (tDrop (tBM K "list" rAppend (tVar 3) (tCons (tOp (rIxT K) (tVar 1) (tVar 5)) tNil))))))
    (tSeq (tAsg (tOp (rCatA K) (tSl (rSlA K) (tVar 0) tNoPart (tPart (tVar 4))) (tSl (rSlA K) (tVar 1) tNoPart (tPart (tVar 5)))) (gName 6))
    (tRet (tCall (sp_settled K) [] E0 (tCons (tOp rCat (tVar 3) (tCB (xListOf K) (tCons (tRevT K (tVar 6)) tNil))) (tCons (tCB (rLenS K) (tCons (tVar 3) tNil)) tNil)))))))))))))
section
variable {K : PySem.W.Frag} {σ : L2.St} {H : Hp} {te tf ta tl : TE} {R : List V → Hp → Prop}
theorem er_listOf (h : ER te σ H (fun v H2 => ∃ p ys, v = .ref p ∧ SqT K H2 p ys ∧ R ys H2)) (m : MonoL R) : ER (tCB (xListOf K) (tCons te tNil)) σ H (fun v H2 => ∃ p ys, v = .ref p ∧ H2 p = some (.lst ys) ∧ R ys H2) := fun H1 e Q q =>
  h H1 e _ fun v H2 e2 ⟨p, ys, hv, hs, hR⟩ => ⟨p, ys, by rw [hv], .inr hs, fun l hl => q _ _ (e2.trans (Ex.new hl)) ⟨l, ys, rfl, upd_same, m ys _ _ (Ex.new hl) hR⟩⟩
theorem er_catV {l : Addr} {xs : List V} (hv : Ev te σ H (.ref l)) (hl : H l = some (.lst xs)) (h' : ER tl σ H (fun v H2 => ∃ p zs, v = .ref p ∧ H2 p = some (.lst zs) ∧ R zs H2)) (m : MonoL R) (hz : ∀ zs H2, R zs H2 → xs.length + zs.length ≤ 100000) : ER (tOp rCat te tl) σ H (fun v H2 => ∃ p zs, v = .ref p ∧ H2 p = some (.lst (xs ++ zs)) ∧ R zs H2) := fun H1 e Q q =>
  hv H1 e _ fun H2 e2 => h' H2 (e.trans e2) _ fun v H3 e3 ⟨p, zs, hp, hp2, hR⟩ => ⟨l, p, xs, zs, rfl, hp, (e.trans (e2.trans e3)) l _ hl, hp2, sz_of (hz zs H3 hR), fun r hr => q _ _ ((e2.trans e3).trans (Ex.new hr)) ⟨r, zs, rfl, upd_same, m zs _ _ (Ex.new hr) hR⟩⟩
end
theorem cmp_neg (a b : Int) : decide (cmpI a b < 0) = decide (a < b) := by
  unfold cmpI
  split
  · rename_i h; rw [decide_eq_true h]; rfl
  · rename_i h
    rw [decide_eq_false h]
    split <;> rfl
def WPlus (K : PySem.W.Frag) (a b l : Addr) (t u : T) (H0 : Hp) (m : Nat) (σ : L2.St) (H : Hp) : Prop := ∃ (i j : Nat) (rw : List (Int × T)) (ys : List V), σ = [some (.ref a), some (.ref b), some .non, some (.ref l), some (.int (i : Int)), some (.int (j : Int)), none] ∧ Ex H0 H ∧ H l = some (.lst ys) ∧ ItemsR (TermI K) rw ys H ∧ i ≤ t.toL.length ∧ j ≤ u.toL.length ∧ m = i + j ∧ Mrg t.toL u.toL i j rw
theorem pure_plus {K : PySem.W.Frag} {vs : List V} {H : Hp} {Q : VK} {E : XK} (h : sp_plus K vs H Q E) : t_plus K { nx := fun _ H' => Q .non H', rt := Q } (start ["first", "second", "value", "row", "at", "other", "rest"] vs) H := by
  obtain ⟨x, y, R, rfl, ⟨t, u, hx, hy, ht, hu, rfl⟩, k⟩ := h
  obtain ⟨a, xs, rfl, ha, hxs⟩ := hx.out
  obtain ⟨b, ys, rfl, hb, hys⟩ := hy.out
  have lx := hxs.len
  have ly := hys.len
  have it1 := items_terms hxs
  have it2 := items_terms hys
  have hwi : ∀ {σ : L2.St} {H1 : Hp} {i : Nat} {v : V} {w : T}, σ[i]? = some (some v) → Ex H H1 → NumV K H v w → PlOk w → ER (tCall (sp_value_within K 45) [] E0 (tCons (tVar i) (tCons (tC (.int 512)) tNil))) σ H1 (fun v _ => v = optV (w.within 512)) := fun {σ H1 i v w} hi e1 hv hw =>
    er_call2 (R1 := fun v H => NumV K H v w) (R2 := fun v _ => v = .int ((512 : Nat) : Int)) (er_var hi fun H5 e5 => hv.ex (e1.trans e5)) numT.mono (er_is ev_c) monoC fun v w' H5 e5 k1 k2 => ⟨w, 512, k1, k2, hw.nn, by have := hw.ht; omega, by omega, by have := hw.ln; omega, rfl⟩
  have small : ∀ {σ : L2.St} {H1 : Hp} {i : Nat} {v : V} {w w' : T} {q : Int}, σ[i]? = some (some v) → σ[2]? = some (some (.int q)) → Ex H H1 → NumV K H v w → PlOk w → PlOk w' → w'.within 512 = some q → w.val + w'.val = t.val + u.val → tRet (tCall (sp_plus_small K) [] E0 (tCons (tVar i) (tCons (tVar 2) tNil))) { nx := fun σ' H' => False, rt := Q } σ H1 := fun {σ H1 i v w w' q} hi h2 e1 hv hw hw' hq hs => by
    have hvq := within_val _ _ _ hq
    have hbq := within_bound hw'.can hq
    refine s_retR (er_call2 (R1 := fun v H => NumV K H v w) (R2 := fun v _ => v = .int q) (R := fun v H' => ∃ r, NumV K H' v r ∧ r.can ∧ r.val = w.val + q ∧ r.size ≤ w.size + 40 * (513 + 3 * w.toL.length + 3) ∧ r.height ≤ max w.height 6) (er_var hi fun H5 e5 => hv.ex (e1.trans e5)) numT.mono (er_is (ev_var h2)) monoC fun v v' H5 e5 k1 k2 => ⟨w, q, 513, k1, k2, hw.can, hw.ht, fun x hx => by have := hw.sz x hx; omega, by have := hw.ln; omega, hbq, rfl⟩) fun v H5 e5 ⟨r, g1, g2, g3, _⟩ => k _ _ (e1.trans e5) ⟨r, g1, g2, by rw [g3, hvq]; omega⟩
  refine q_asgR (hwi rfl (Ex.refl _) hy hu) fun v H1 e1 hv => ?_
  subst hv
  cases hq1 : u.within 512 with
  | some q =>
    refine q_when (b := true) (et_test (ev_is (ev_notN (ev_var rfl)) rfl)) (fun _ H2 e2 => ?_) (fun h => by cases h)
    exact small (i := 0) (w := t) (w' := u) (q := q) rfl rfl (e1.trans e2) hx ht hu hq1 rfl
  | none =>
  refine q_when (b := false) (et_test (ev_is (ev_notN (ev_var rfl)) rfl)) (fun h => by cases h) (fun _ H2 e2 => ?_)
  refine q_asgR (hwi rfl (e1.trans e2) hx ht) fun v H3 e3 hv => ?_
  subst hv
  cases hq2 : t.within 512 with
  | some q =>
    refine q_when (b := true) (et_test (ev_is (ev_notN (ev_var rfl)) rfl)) (fun _ H4 e4 => ?_) (fun h => by cases h)
    exact small (i := 1) (w := u) (w' := t) (q := q) rfl rfl (e1.trans (e2.trans (e3.trans e4))) hy hu ht hq2 (Int.add_comm _ _)
  | none =>
  refine q_when (b := false) (et_test (ev_is (ev_notN (ev_var rfl)) rfl)) (fun h => by cases h) (fun _ H4 e4 => ?_)
  have e14 := e1.trans (e2.trans (e3.trans e4))
  refine q_asgL (el_lst ea_nil (by decide)) fun l H5 hl e5 h5 => ?_
  have hl0 : H l = none := fresh_back e14 hl
  refine q_asg (ev_is (ev_lenT (ev_var rfl) (ex_t (e14.trans e5) ha)) (by rw [lx])) fun H6 e6 => ?_
  refine q_asg (ev_is (ev_lenT (ev_var rfl) (ex_t (e14.trans (e5.trans e6)) hb)) (by rw [ly])) fun H7 e7 => ?_
  refine q_while' (WPlus K a b l t u H) (t.toL.length + u.toL.length) ⟨t.toL.length, u.toL.length, [], [], rfl, e14.trans (e5.trans (e6.trans e7)), (e6.trans e7) l _ h5, .nil, Nat.le_refl _, Nat.le_refl _, rfl, Mrg.start _ _⟩ ?_
  rintro m σ' H' ⟨i, j, rw, rs, rfl, e8, h8, hit, hi, hj, rfl, hM⟩
  have hrl : rs.length ≤ 1400 := by rw [hit.1]; have := hM.len; have := ht.ln; have := hu.ln; omega
  refine ⟨decide ((0 : Int) < (i : Int)) && decide ((0 : Int) < (j : Int)), et_and (et_test (ev_gt (ev_var rfl) ev_c)) (fun _ => et_test (ev_gt (ev_var rfl) ev_c)), fun hb2 H9 e9 => ?_, fun hb2 H9 e9 => ?_⟩
  · rw [Bool.and_eq_true, decide_eq_true_eq, decide_eq_true_eq] at hb2
    obtain ⟨i, rfl⟩ : ∃ n, i = n + 1 := ⟨i - 1, by omega⟩
    obtain ⟨j, rfl⟩ : ∃ n, j = n + 1 := ⟨j - 1, by omega⟩
    obtain ⟨s1, hs1⟩ : ∃ z, t.toL[i]? = some z := ⟨_, List.getElem?_eq_getElem (by omega)⟩
    obtain ⟨s2, hs2⟩ : ∃ z, u.toL[j]? = some z := ⟨_, List.getElem?_eq_getElem (by omega)⟩
    obtain ⟨v1, hv1, p1, w1, rfl, hp1, hw1⟩ := it1.at hs1
    obtain ⟨v2, hv2, p2, w2, rfl, hp2, hw2⟩ := it2.at hs2
    have x1 := ht.ex s1 (List.mem_of_getElem? hs1)
    have x2 := hu.ex s2 (List.mem_of_getElem? hs2)
    have e09 := e8.trans e9
    refine s_if (b := decide (s1.2.val < s2.2.val)) (et_test (ev_is (ev_lt (ev_er (er_call2 (R1 := fun v H => NumV K H v s1.2) (R2 := fun v H => NumV K H v s2.2)
      (er_ev (ev_atT (ev_atT (ev_var rfl) (ev_is (ev_sub (ev_var rfl) ev_c) (by simp : V.int (((i + 1 : Nat) : Int) - 1) = V.int (i : Int))) (ex_t e09 ha) (atI_nat hv1)) ev_c (ex_t e09 hp1) (atI_nat (j := 1) rfl)) fun H10 e10 => hw1.ex (e09.trans e10)) numT.mono
      (er_ev (ev_atT (ev_atT (ev_var rfl) (ev_is (ev_sub (ev_var rfl) ev_c) (by simp : V.int (((j + 1 : Nat) : Int) - 1) = V.int (j : Int))) (ex_t e09 hb) (atI_nat hv2)) ev_c (ex_t e09 hp2) (atI_nat (j := 1) rfl)) fun H10 e10 => hw2.ex (e09.trans e10)) numT.mono
      fun v w H10 e10 k1 k2 => ⟨s1.2, s2.2, k1, k2, x1.2.can, x2.2.can, by have := x1.2.ht; omega, by have := x1.2.sz; omega, by have := x2.2.sz; omega, rfl⟩)) ev_c) (congrArg V.bl (cmp_neg _ _)))) (fun hc H10 e10 => ?_) (fun hc H10 e10 => ?_)
    · have hc' := of_decide_eq_true hc
      refine q_aug (a := ((i + 1 : Nat) : Int)) (b := 1) rfl ev_c fun H11 e11 => ?_
      have hsub : ((i + 1 : Nat) : Int) - 1 = (i : Int) := by omega
      have e911 := e9.trans (e10.trans e11)
      refine s_app (e911 l _ h8) (ev_var rfl) (ev_atT (ev_var rfl) (ev_is (ev_var rfl) (congrArg V.int hsub)) (ex_t (e8.trans e911) ha) (atI_nat hv1)) (by omega) fun H12 e12 => ⟨i + (j + 1), by omega, i, j + 1, rw ++ [s1], rs ++ [.ref p1], by rw [← hsub]; rfl, Ex.mut (e8.trans (e911.trans e12)) hl0, upd_same, ?_, by omega, hj, rfl, hM.left (can_gap ht.can) hs1 fun y hy => ?_⟩
      · refine ItemsR.snoc ((hit.ex (fun x => (termI x).mono) (e911.trans e12)).tex termI (TEx.put ((e911.trans e12) l _ h8))) ?_
        exact termI _ _ _ _ ((Ex.t (e8.trans (e911.trans e12))).trans (TEx.put ((e911.trans e12) l _ h8))) ⟨p1, w1, rfl, hp1, hw1⟩
      · have hp : (u.toL.take j ++ [s2]).Pairwise (fun a b => b.2.val + 2 ≤ a.2.val) := by rw [← take_snoc hs2]; exact (can_gap hu.can).sublist (List.take_sublist _ _)
        rw [take_snoc hs2] at hy
        rcases List.mem_append.mp hy with q | q
        · have := (List.pairwise_append.mp hp).2.2 y q s2 (List.mem_singleton.mpr rfl)
          omega
        · rw [List.mem_singleton.mp q]; omega
    · have hc' := of_decide_eq_false hc
      refine q_aug (a := ((j + 1 : Nat) : Int)) (b := 1) rfl ev_c fun H11 e11 => ?_
      have hsub : ((j + 1 : Nat) : Int) - 1 = (j : Int) := by omega
      have e911 := e9.trans (e10.trans e11)
      refine s_app (e911 l _ h8) (ev_var rfl) (ev_atT (ev_var rfl) (ev_is (ev_var rfl) (congrArg V.int hsub)) (ex_t (e8.trans e911) hb) (atI_nat hv2)) (by omega) fun H12 e12 => ⟨i + 1 + j, by omega, i + 1, j, rw ++ [s2], rs ++ [.ref p2], by rw [← hsub]; rfl, Ex.mut (e8.trans (e911.trans e12)) hl0, upd_same, ?_, hi, by omega, rfl, (hM.swap.left (can_gap hu.can) hs2 fun y hy => ?_).swap⟩
      · refine ItemsR.snoc ((hit.ex (fun x => (termI x).mono) (e911.trans e12)).tex termI (TEx.put ((e911.trans e12) l _ h8))) ?_
        exact termI _ _ _ _ ((Ex.t (e8.trans (e911.trans e12))).trans (TEx.put ((e911.trans e12) l _ h8))) ⟨p2, w2, rfl, hp2, hw2⟩
      · have hp : (t.toL.take i ++ [s1]).Pairwise (fun a b => b.2.val + 2 ≤ a.2.val) := by rw [← take_snoc hs1]; exact (can_gap ht.can).sublist (List.take_sublist _ _)
        rw [take_snoc hs1] at hy
        rcases List.mem_append.mp hy with q | q
        · have := (List.pairwise_append.mp hp).2.2 y q s1 (List.mem_singleton.mpr rfl)
          omega
        · rw [List.mem_singleton.mp q]; omega
  · have hij : i = 0 ∨ j = 0 := by
      rcases Nat.eq_zero_or_pos i with q | q
      · exact .inl q
      · rcases Nat.eq_zero_or_pos j with q' | q'
        · exact .inr q'
        · rw [decide_eq_true (by omega), decide_eq_true (by omega)] at hb2; cases hb2
    obtain ⟨d1, d2, d3⟩ := hM.done hij (can_gap ht.can) (can_gap hu.can) (fun x hx => hx.elim (ht.ex x) (hu.ex x)) (by have := ht.ln; have := hu.ln; omega)
    have e09 := e8.trans e9
    have l1 : (xs.take i).length ≤ 700 := by rw [List.length_take]; have := ht.ln; omega
    have l2 : (ys.take j).length ≤ 700 := by rw [List.length_take]; have := hu.ln; omega
    refine q_asgR (er_catT (P := fun zs _ => zs = xs.take i) (P' := fun zs _ => zs = ys.take j) ((er_upTo (n := i) (ev_var rfl) (ex_t e09 ha) (ev_var rfl)).imp fun v H10 e10 ⟨q, hv, hq⟩ => ⟨q, _, hv, hq, rfl⟩) (fun _ _ _ _ h => h) ((er_upTo (n := j) (ev_var rfl) (ex_t e09 hb) (ev_var rfl)).imp fun v H10 e10 ⟨q, hv, hq⟩ => ⟨q, _, hv, hq, rfl⟩) (fun _ _ _ _ h => h) (fun _ _ _ _ h h' => by rw [h, h']; omega)) fun v H10 e10 ⟨q, zs, zs', hv, hq, hz, hz'⟩ => ?_
    subst hv hz hz'
    have e90 := e9.trans e10
    have itall : ∀ H11, Ex H10 H11 → ItemsR (TermI K) (rw ++ (t.toL.take i ++ u.toL.take j).reverse) (rs ++ (xs.take i ++ ys.take j).reverse) H11 := fun H11 e11 =>
      ItemsR.append (hit.ex (fun x => (termI x).mono) (e90.trans e11)) (ItemsR.rev (ItemsR.append ((it1.ex (fun x => (termI x).mono) (e8.trans (e90.trans e11))).take i) ((it2.ex (fun x => (termI x).mono) (e8.trans (e90.trans e11))).take j)))
    refine s_retR (er_call2 (R1 := fun v H' => ∃ p, v = .ref p ∧ H' p = some (.lst (rs ++ (xs.take i ++ ys.take j).reverse)) ∧ ItemsR (TermI K) (rw ++ (t.toL.take i ++ u.toL.take j).reverse) (rs ++ (xs.take i ++ ys.take j).reverse) H') (R2 := fun v _ => v = .int (rw.length : Int)) (R := fun v H' => ∃ r, NumV K H' v r ∧ Settled (rw ++ (t.toL.take i ++ u.toL.take j).reverse) r)
      ((er_catV (R := fun zs _ => zs = (xs.take i ++ ys.take j).reverse) (ev_var rfl) (e90 l _ h8) (er_listOf ((er_revT (R := fun zs _ => zs = xs.take i ++ ys.take j) (er_ev (ev_var rfl) fun H11 e11 => ⟨q, _, rfl, ex_t e11 hq, rfl⟩) (fun _ _ _ _ h => h)).imp fun v H11 e11 ⟨p, zs, hv, hp, hz⟩ => ⟨p, _, hv, hp, by rw [hz]⟩) (fun _ _ _ _ h => h)) (fun _ _ _ _ h => h) (fun zs H2 h => by rw [h, List.length_reverse, List.length_append]; omega)).imp fun v H11 e11 ⟨p, zs, hv, hp, hz⟩ => ⟨p, hv, by rw [hp, hz], itall H11 e11⟩)
      (fun v H11 H12 e ⟨p, g1, g2, g3⟩ => ⟨p, g1, e p _ g2, g3.ex (fun x => (termI x).mono) e⟩) (er_is (ev_is (ev_lenL (ev_var rfl) (sq_of (e90 l _ h8))) (by rw [hit.1]))) monoC
      fun v w H11 e11 ⟨p, g1, g2, g3⟩ g4 => ⟨p, _, _, rw.length, g1, g2, g3, g4, d1, d2, rfl⟩) fun v H11 e11 ⟨r, g1, g2⟩ => k _ _ (e8.trans (e90.trans e11)) ⟨r, g1, g2.1, ?_⟩
    rw [g2.2.1, d3, ← sumT_ofL, ← sumT_ofL, ofL_toL, ofL_toL]
end Sk
set_option Elab.async false
set_option linter.all false
set_option maxRecDepth 100000
set_option maxHeartbeats 1000000
namespace Sk
open PySem L2 Evl
def negT (t : T) : T := ofL (t.toL.map fun x => (-x.1, x.2))
theorem sumT_neg : ∀ l : List (Int × T), sumT (l.map fun x => (-x.1, x.2)) = -sumT l
  | [] => rfl
  | x :: l => by
    rw [List.map_cons, sumT_cons, sumT_cons, sumT_neg l]
    show -x.1 * 2 ^ x.2.val.toNat + -sumT l = _
    rw [Int.neg_mul]
    omega
theorem negT_val (t : T) : (negT t).val = -t.val := by
  unfold negT
  rw [sumT_ofL, sumT_neg, ← sumT_ofL, ofL_toL]
theorem negT_can {t : T} (h : t.can) : (negT t).can := by
  unfold negT
  refine can_ofL (fun x hx => ?_) ?_
  · obtain ⟨y, hy, rfl⟩ := List.mem_map.mp hx
    obtain ⟨h1, h2, h3⟩ := can_toL h y hy
    exact ⟨by rcases h1 with q | q <;> simp [q], h2, h3⟩
  · rw [List.pairwise_map]
    exact can_gap h
theorem negT_len (t : T) : (negT t).toL.length = t.toL.length := by unfold negT; rw [toL_ofL, List.length_map]
theorem negT_mem {t : T} {x : Int × T} (h : x ∈ (negT t).toL) : ∃ y ∈ t.toL, x.2 = y.2 := by
  unfold negT at h
  rw [toL_ofL] at h
  obtain ⟨y, hy, rfl⟩ := List.mem_map.mp h
  exact ⟨y, hy, rfl⟩
theorem negT_ht (t : T) : (negT t).height ≤ t.height := height_le_of fun x hx => by
  obtain ⟨y, hy, e⟩ := negT_mem hx
  have := (mem_size hy).2
  rw [e]
  omega
theorem PlOk.neg {t : T} (h : PlOk t) : PlOk (negT t) := ⟨negT_can h.can, Nat.le_trans (negT_ht t) h.ht, fun x hx => by
  obtain ⟨y, hy, e⟩ := negT_mem hx
  rw [e]; exact h.sz y hy, by rw [negT_len]; exact h.ln, fun x hx => by
  obtain ⟨y, hy, e⟩ := negT_mem hx
  rw [e]; exact h.sub y hy⟩
def pNegate (K : PySem.W.Frag) : V → Hp → VP → Prop := fun x H R => ∃ t : T, NumV K H x t ∧ t.toL.length < 90000 ∧ R = fun v H' => NumV K H' v (negT t)
def sp_negate (K : PySem.W.Frag) : Sp := spF1 (pNegate K)
def t_negate (K : PySem.W.Frag) : TS := (tRet (tThen (tLc (iTup K (tVar 0)) (gTup K 2 (gCons (gName 1) (gCons (gName 2) gNil))) tYes (tTup (tCons (tUn xNeg (tVar 1)) (tCons (tVar 2) tNil))) [1, 2]) (kTup K)))
theorem ItemsR.mapT {K : PySem.W.Frag} {f : Int × T → Int × T} : ∀ {l : List (Int × T)} {ys : List V} {H : Hp}, ItemsR (fun a => TermI K (f a)) l ys H → ItemsR (TermI K) (l.map f) ys H := fun h => ItemsR.mapI h
theorem pure_negate {K : PySem.W.Frag} {vs : List V} {H : Hp} {Q : VK} {E : XK} (h : sp_negate K vs H Q E) : t_negate K { nx := fun _ H' => Q .non H', rt := Q } (start ["number", "sign", "exponent"] vs) H := by
  obtain ⟨x, R, rfl, ⟨t, hx, hl, rfl⟩, k⟩ := h
  obtain ⟨a, xs, rfl, ha, hxs⟩ := hx.out
  refine s_retR (er_tupleOf (R := fun ys H' => ItemsR (fun x => TermI K (-x.1, x.2)) t.toL ys H') ((er_lcIT (R1 := TermI K) (R2 := fun x => TermI K (-x.1, x.2)) (l := t.toL) (er_ev (ev_var rfl) fun H2 e2 => ⟨a, xs, rfl, ex_t e2 ha, items_terms (hxs.ex e2)⟩) (fun a => (termI a).mono) (fun a => termI _) (by omega) ?_).imp fun v H2 e2 ⟨p, ys, hv, hp0, hp, hit⟩ => ⟨p, ys, hv, sq_of hp, hit⟩) (fun ys Ha Hb e h => h.ex (fun a => (termI _).mono) e)) fun v H2 e2 ⟨p, ys, hv, hp, hit⟩ => k _ _ e2 ?_
  · rintro i ⟨s, e⟩ z H2 hi ⟨q, w, rfl, hq, hw⟩ e2 Qk kk
    refine g_pair hq ⟨rfl, ?_⟩
    refine (er_tup (ea_two (R := fun v _ => v = .int (-s)) (R' := fun v H3 => NumV K H3 v e) (er_is (ev_neg (ev_var rfl))) monoC (er_var rfl fun H3 e3 => hw.ex e3) numT.mono) (fun vs Ha Hb e ⟨v, w, h1, h2, h3⟩ => ⟨v, w, h1, h2, h3.ex e⟩) (fun vs Ha ⟨v, w, h1, _⟩ => by rw [h1]; show 2 ≤ 100000; omega)) H2 (Ex.refl _) _ fun v H3 e3 ⟨p, vs, hv, hp, v', w', g1, g2, g3⟩ => kk v H3 e3 ⟨p, w', hv, st_of (by rw [hp, g1, g2]), g3⟩
  · rw [hv]
    exact NumV.mk (st_of hp) (terms_items (ItemsR.mapT (f := fun x => (-x.1, x.2)) hit))
section
variable {K : PySem.W.Frag} {CL : Addr} {σ : L2.St} {H : Hp} {te tf ta : TE} {t u : T}
theorem er_plus (h : ER te σ H (fun v H => NumV K H v t)) (h' : ER tf σ H (fun v H => NumV K H v u)) (ht : PlOk t) (hu : PlOk u) : ER (tCall (sp_plus K) [] E0 (tCons te (tCons tf tNil))) σ H (fun v H' => NumV K H' v (toT (t.val + u.val))) :=
  (er_call2 (R := fun w H' => ∃ r, NumV K H' w r ∧ r.can ∧ r.val = t.val + u.val) h numT.mono h' numT.mono fun v w H1 e1 g1 g2 => ⟨t, u, g1, g2, ht, hu, rfl⟩).imp fun v H2 e2 ⟨r, k1, k2, k3⟩ => by
    rw [← k3, ← can_eq k2]; exact k1
theorem er_negate (h : ER te σ H (fun v H => NumV K H v t)) (hl : t.toL.length < 90000) : ER (tCall (sp_negate K) [] E0 (tCons te tNil)) σ H (fun v H' => NumV K H' v (negT t)) :=
  er_call1 h numT.mono fun v H1 e1 g1 => ⟨t, g1, hl, rfl⟩
def pAdd (K : PySem.W.Frag) (CL : Addr) : V → V → Hp → VP → WP → Prop := fun x y H R W => ∃ (t u : T), NumV K H x t ∧ NumV K H y u ∧ PlOk t ∧ PlOk u ∧ (toT (t.val + u.val)).szk ∧ ((toT (t.val + u.val)).fits → ∀ v H', NumV K H' v (toT (t.val + u.val)) → R v H') ∧ (¬ (toT (t.val + u.val)).fits → W CL)
def sp_add (K : PySem.W.Frag) (CL : Addr) : Sp := spX2 K (pAdd K CL)
def t_add (K : PySem.W.Frag) (a_TooLarge : Addr) (E : XK) : TS := (tRet (tCall (sp_allowed K a_TooLarge) [] E (tCons (tCall (sp_plus K) [] E0 (tCons (tVar 0) (tCons (tVar 1) tNil))) tNil)))
theorem pure_add {vs : List V} {Q : VK} {E : XK} (h : sp_add K CL vs H Q E) : t_add K CL E { nx := fun _ H' => Q .non H', rt := Q } (start ["first", "second"] vs) H := by
  obtain ⟨x, y, R, W, rfl, ⟨t, u, hx, hy, ht, hu, hsz, hR, hW⟩, k, kE⟩ := h
  exact x_call1 (R1 := fun v H => NumV K H v (toT (t.val + u.val))) (er_plus (er_var rfl fun H1 e1 => hx.ex e1) (er_var rfl fun H1 e1 => hy.ex e1) ht hu) numT.mono _ fun v H1 e1 g => ⟨R, W, ⟨_, g, hsz, hR, hW⟩, fun w H2 e2 hw => k w H2 (e1.trans e2) hw, fun C H2 e2 hC => kE C H2 (e1.trans e2) hC⟩
end
def shL (p : Int) (l : List (Int × T)) : List (Int × T) := l.map fun x => (x.1, toT (x.2.val + p))
def pBShift (K : PySem.W.Frag) : V → V → Hp → VP → Prop := fun x y H R => ∃ (t p : T), NumV K H x t ∧ NumV K H y p ∧ t.toL.length < 90000 ∧ (∀ x ∈ t.toL, PlOk x.2) ∧ PlOk p ∧ R = fun v H' => NumV K H' v (ofL (shL p.val t.toL))
def sp_bare_shift (K : PySem.W.Frag) : Sp := spF2 (pBShift K)
def t_bare_shift (K : PySem.W.Frag) : TS := (tSeq (tAsg (tCall (sp_value_within K 45) [] E0 (tCons (tVar 1) (tCons (tC (.int 512)) tNil))) (gName 2))
    (tSeq (tIfS (tTest (tOp xNotN (tVar 2) (tC .non))) (tRet (tThen (tLc (iTup K (tVar 0)) (gTup K 2 (gCons (gName 3) (gCons (gName 4) gNil))) tYes (tTup (tCons (tVar 3) (tCons (tCall (sp_plus_small K) [] E0 (tCons (tVar 4) (tCons (tVar 2) tNil))) tNil))) [3, 4]) (kTup K))) tNext)
    (tRet (tThen (tLc (iTup K (tVar 0)) (gTup K 2 (gCons (gName 3) (gCons (gName 4) gNil))) tYes (tTup (tCons (tVar 3) (tCons (tCall (sp_plus K) [] E0 (tCons (tVar 4) (tCons (tVar 1) tNil))) tNil))) [3, 4]) (kTup K)))))
theorem pure_bare_shift {K : PySem.W.Frag} {vs : List V} {H : Hp} {Q : VK} {E : XK} (h : sp_bare_shift K vs H Q E) : t_bare_shift K { nx := fun _ H' => Q .non H', rt := Q } (start ["terms", "places", "value", "sign", "exponent"] vs) H := by
  obtain ⟨x, y, R, rfl, ⟨t, p, hx, hy, hl, hok, hp, rfl⟩, k⟩ := h
  obtain ⟨a, xs, rfl, ha, hxs⟩ := hx.out
  refine q_asgR (er_call2 (R1 := fun v H => NumV K H v p) (R2 := fun v _ => v = .int ((512 : Nat) : Int)) (R := fun v _ => v = optV (p.within 512)) (er_var rfl fun H5 e5 => hy.ex e5) numT.mono (er_is ev_c) monoC fun v w' H5 e5 k1 k2 => ⟨p, 512, k1, k2, hp.nn, by have := hp.ht; omega, by omega, by have := hp.ln; omega, rfl⟩) fun v H1 e1 hv => ?_
  subst hv
  -- the rows of both ways
  have both : ∀ (tm : TE) (z : V) (H2 : Hp), Ex H H2 → (∀ (s : Int) (e : T) (w : V) (H3 : Hp), (s, e) ∈ t.toL → Ex H2 H3 → NumV K H3 w e → ER tm [some (.ref a), some y, some z, some (.int s), some w] H3 (fun v H' => NumV K H' v (toT (e.val + p.val)))) →
      tRet (tThen (tLc (iTup K (tVar 0)) (gTup K 2 (gCons (gName 3) (gCons (gName 4) gNil))) tYes (tTup (tCons (tVar 3) (tCons tm tNil))) [3, 4]) (kTup K)) { nx := fun _ H' => Q .non H', rt := Q } [some (.ref a), some y, some z, none, none] H2 := by
    intro tm z H2 e2 htm
    refine s_retR (er_tupleOf (R := fun ys H' => ItemsR (fun x => TermI K (x.1, toT (x.2.val + p.val))) t.toL ys H') ((er_lcIT (R1 := TermI K) (R2 := fun x => TermI K (x.1, toT (x.2.val + p.val))) (l := t.toL) (er_ev (ev_var rfl) fun H3 e3 => ⟨a, xs, rfl, ex_t (e2.trans e3) ha, items_terms (hxs.ex (e2.trans e3))⟩) (fun a => (termI a).mono) (fun a => termI _) (by omega) ?_).imp fun v H3 e3 ⟨q, ys, hv, hp0, hp, hit⟩ => ⟨q, ys, hv, sq_of hp, hit⟩) (fun ys Ha Hb e h => h.ex (fun a => (termI _).mono) e)) fun v H3 e3 ⟨q, ys, hv, hp, hit⟩ => k _ _ (e2.trans e3) ?_
    · rintro i ⟨s, e⟩ z' H3 hi ⟨q, w, rfl, hq, hw⟩ e3 Qk kk
      refine g_pair hq ⟨rfl, ?_⟩
      refine (er_tup (ea_two (R := fun v _ => v = .int s) (R' := fun v H3 => NumV K H3 v (toT (e.val + p.val))) (er_is (ev_var rfl)) monoC (htm s e w H3 (List.mem_of_getElem? hi) e3 hw) numT.mono) (fun vs Ha Hb e ⟨v, w, h1, h2, h3⟩ => ⟨v, w, h1, h2, h3.ex e⟩) (fun vs Ha ⟨v, w, h1, _⟩ => by rw [h1]; show 2 ≤ 100000; omega)) H3 (Ex.refl _) _ fun v H4 e4 ⟨q, vs, hv, hp, v', w', g1, g2, g3⟩ => kk v H4 e4 ⟨q, w', hv, st_of (by rw [hp, g1, g2]), g3⟩
    · rw [hv]
      exact NumV.mk (st_of hp) (terms_items (ItemsR.mapT (f := fun x => (x.1, toT (x.2.val + p.val))) hit))
  cases hq : p.within 512 with
  | some q =>
    refine q_when (b := true) (et_test (ev_is (ev_notN (ev_var rfl)) rfl)) (fun _ H2 e2 => ?_) (fun h => by cases h)
    have hvq := within_val _ _ _ hq
    have hbq := within_bound hp.can hq
    refine both _ _ H2 (e1.trans e2) fun s e w H3 hm e3 hw => ?_
    have he : PlOk e := hok _ hm
    exact (er_call2 (R1 := fun v H => NumV K H v e) (R2 := fun v _ => v = .int q) (R := fun v H' => ∃ r, NumV K H' v r ∧ r.can ∧ r.val = e.val + q ∧ r.size ≤ e.size + 40 * (513 + 3 * e.toL.length + 3) ∧ r.height ≤ max e.height 6) (er_var rfl fun H5 e5 => hw.ex e5) numT.mono (er_is (ev_var rfl)) monoC fun v v' H5 e5 k1 k2 => ⟨e, q, 513, k1, k2, he.can, he.ht, fun x hx => by have := he.sz x hx; omega, by have := he.ln; omega, hbq, rfl⟩).imp fun v H5 e5 ⟨r, g1, g2, g3, _⟩ => by
      rw [← hvq, ← g3, ← can_eq g2]; exact g1
  | none =>
    refine q_when (b := false) (et_test (ev_is (ev_notN (ev_var rfl)) rfl)) (fun h => by cases h) (fun _ H2 e2 => ?_)
    exact both _ _ H2 (e1.trans e2) fun s e w H3 hm e3 hw => er_plus (er_var rfl fun H5 e5 => hw.ex e5) (er_var rfl fun H5 e5 => hy.ex (e1.trans (e2.trans (e3.trans e5)))) (hok _ hm) hp
end Sk
set_option Elab.async false
set_option linter.all false
set_option maxRecDepth 100000
set_option maxHeartbeats 1000000
namespace Sk
open PySem L2 Evl
theorem atI_lastT {α : Type} {xs : List α} {z : α} (h : xs[xs.length - 1]? = some z) : atI xs (-1) = some z := by
  have hl : 0 < xs.length := by
    cases xs with
    | nil => cases h
    | cons => exact Nat.succ_pos _
  unfold atI ixN
  rw [if_neg (by decide), if_pos (by omega)]
  show xs[((-1 : Int) + (xs.length : Int)).toNat]? = some z
  rw [show ((-1 : Int) + (xs.length : Int)).toNat = xs.length - 1 by omega]
  exact h
end Sk
set_option Elab.async false
set_option linter.all false
set_option maxRecDepth 100000
set_option maxHeartbeats 1000000
namespace Sk
open PySem L2 Evl
/-- an exponent in a sum -/
structure SmOk (e : T) : Prop where
  can : e.can
  nn : 0 ≤ e.val
  ht : e.height ≤ 42
  sz : e.size < 2000
  ln : e.toL.length ≤ 500
theorem SmOk.ex {e : T} (h : SmOk e) : ExpOk e := ⟨h.can, h.nn, Nat.le_trans h.ht (by omega), by have := h.sz; omega, by have := h.ln; omega⟩
def pIndexIn (K : PySem.W.Frag) : V → V → Hp → VP → Prop := fun x y H R => ∃ (p : Addr) (ys : List V) (rw : List (Int × T)) (e : T), x = .ref p ∧ H p = some (.lst ys) ∧ ItemsR (TermI K) rw ys H ∧ NumV K H y e ∧ (∀ x ∈ rw, SmOk x.2) ∧ SmOk e ∧ rw.Pairwise (fun a b => a.2.val ≤ b.2.val) ∧ rw.length ≤ 2000 ∧
  R = fun v _ => ∃ n : Nat, v = .int (n : Int) ∧ n ≤ rw.length ∧ (∀ (i : Nat) (x : Int × T), i < n → rw[i]? = some x → x.2.val < e.val) ∧ (∀ (i : Nat) (x : Int × T), n ≤ i → rw[i]? = some x → e.val ≤ x.2.val)
def sp_index_in (K : PySem.W.Frag) : Sp := spF2 (pIndexIn K)
def t_index_in (K : PySem.W.Frag) : TS := (tSeq (tAsg (tC (.int 0)) (gName 2))
    (tSeq (tAsg (tCB (rLenS K) (tCons (tVar 0) tNil)) (gName 3))
    (tSeq (tWhile (tTest (tOp xLt (tVar 2) (tVar 3))) (tSeq (tAsg (tOp xFdiv (tOp xAdd (tVar 2) (tVar 3)) (tC (.int 2))) (gName 4))
    (tIfS (tTest (tOp xLt (tCall (sp_order K) [] E0 (tCons (tOp (rIxT K) (tOp (rIxL K) (tVar 0) (tVar 4)) (tC (.int 1))) (tCons (tVar 1) tNil))) (tC (.int 0)))) (tAsg (tOp xAdd (tVar 4) (tC (.int 1))) (gName 2)) (tAsg (tVar 4) (gName 3)))))
    (tRet (tVar 2)))))
theorem pure_index_in {K : PySem.W.Frag} {vs : List V} {H : Hp} {Q : VK} {E : XK} (h : sp_index_in K vs H Q E) : t_index_in K { nx := fun _ H' => Q .non H', rt := Q } (start ["row", "exponent", "begin", "end", "middle"] vs) H := by
  obtain ⟨x, y, R, rfl, ⟨p, ys, rw, e, rfl, hp, hit, hy, hok, he, hasc, hl, rfl⟩, k⟩ := h
  have hyl : ys.length = rw.length := hit.1
  refine q_asg ev_c fun H1 e1 => ?_
  refine q_asg (ev_is (ev_lenL (ev_var rfl) (sq_of (e1 p _ hp))) (by rw [hyl])) fun H2 e2 => ?_
  refine q_while' (fun m σ H' => ∃ (b d : Nat) (z : Option V), σ = [some (.ref p), some y, some (.int (b : Int)), some (.int (d : Int)), z] ∧ Ex H H' ∧ b ≤ d ∧ d ≤ rw.length ∧ m = d - b ∧ (∀ (i : Nat) (x : Int × T), i < b → rw[i]? = some x → x.2.val < e.val) ∧ (∀ (i : Nat) (x : Int × T), d ≤ i → rw[i]? = some x → e.val ≤ x.2.val)) rw.length
    ⟨0, rw.length, none, rfl, e1.trans e2, Nat.zero_le _, Nat.le_refl _, rfl, fun i x h => absurd h (Nat.not_lt_zero _), fun i x h h' => absurd (List.getElem?_eq_some_iff.mp h').1 (by omega)⟩ ?_
  rintro m σ' H' ⟨b, d, z, rfl, e3, hbd, hd, rfl, hlo, hhi⟩
  refine ⟨decide ((b : Int) < (d : Int)), et_test (ev_lt (ev_var rfl) (ev_var rfl)), fun hc H4 e4 => ?_, fun hc H4 e4 => ?_⟩
  · have hlt : b < d := by have := of_decide_eq_true hc; omega
    refine q_asg (v := .int (((b + d) / 2 : Nat) : Int)) (ev_is (ev_fdiv (ev_add (ev_var rfl) (ev_var rfl)) ev_c ⟨by decide, by decide⟩) (congrArg V.int (by omega))) fun H5 e5 => ?_
    have hm1 : b ≤ (b + d) / 2 := by omega
    have hm2 : (b + d) / 2 < d := by omega
    generalize (b + d) / 2 = n at hm1 hm2 ⊢
    obtain ⟨a, hget⟩ : ∃ a, rw[n]? = some a := ⟨_, List.getElem?_eq_getElem (by omega)⟩
    obtain ⟨yv, hyv, q, w, rfl, hq, hw⟩ := hit.at hget
    have ha := hok a (List.mem_of_getElem? hget)
    have e35 := e3.trans (e4.trans e5)
    refine s_if (b := decide (a.2.val < e.val)) (et_test (ev_is (ev_lt (ev_er (er_call2 (R1 := fun v H => NumV K H v a.2) (R2 := fun v H => NumV K H v e) (er_ev (ev_rowE (s := a.1) (ev_var rfl) (ev_var rfl) (e35 p _ hp) hyv (ex_t e35 hq)) fun H6 e6 => hw.ex (e35.trans e6)) numT.mono (er_var rfl fun H6 e6 => hy.ex (e35.trans e6)) numT.mono
      fun v w H6 e6 k1 k2 => ⟨a.2, e, k1, k2, ha.can, he.can, by have := ha.ht; omega, by have := ha.sz; omega, by have := he.sz; omega, rfl⟩)) ev_c) (congrArg V.bl (cmp_neg _ _)))) (fun hc2 H6 e6 => ?_) (fun hc2 H6 e6 => ?_)
    · have hv := of_decide_eq_true hc2
      refine s_asg (v := .int ((n + 1 : Nat) : Int)) (ev_is (ev_add (ev_var rfl) ev_c) (by rfl)) fun H7 e7 => ⟨d - (n + 1), by omega, n + 1, d, _, rfl, e35.trans (e6.trans e7), by omega, hd, rfl, fun i x hi hx => ?_, hhi⟩
      have := asc_at hasc hx hget (by omega)
      omega
    · have hv := of_decide_eq_false hc2
      refine s_asg (ev_var rfl) fun H7 e7 => ⟨n - b, by omega, b, n, _, rfl, e35.trans (e6.trans e7), by omega, by omega, rfl, hlo, fun i x hi hx => ?_⟩
      have := asc_at hasc hget hx hi
      omega
  · have hbd' : b = d := by have := of_decide_eq_false hc; omega
    subst hbd'
    exact s_ret (ev_var rfl) fun H5 e5 => k _ _ (e3.trans (e4.trans e5)) ⟨b, rfl, hd, hlo, hhi⟩
/-- the rows of a sum on the way -/
structure RowS (rw : List (Int × T)) (n : Nat) : Prop where
  ok : ∀ x ∈ rw, SmOk x.2
  asc : rw.Pairwise (fun a b => a.2.val < b.2.val)
  cnt : cntT rw ≤ n
  len : rw.length ≤ n
theorem cntT_app (l l' : List (Int × T)) : cntT (l ++ l') = cntT l + cntT l' := by
  unfold cntT
  rw [List.map_append, List.sum_append]
theorem cntT_mem {l : List (Int × T)} {x : Int × T} (h : x ∈ l) : x.1.natAbs ≤ cntT l := by
  obtain ⟨a, b, rfl⟩ := List.append_of_mem h
  rw [cntT_app, cntT_cons]
  omega
theorem split_at {α : Type} {l : List α} {i : Nat} {a : α} (h : l[i]? = some a) : l = l.take i ++ a :: l.drop (i + 1) := by
  rw [← drop_cons h, List.take_append_drop]
theorem set_split {α : Type} {l : List α} {i : Nat} {a b : α} (h : l[i]? = some a) : l.set i b = l.take i ++ b :: l.drop (i + 1) := by
  have hi := (List.getElem?_eq_some_iff.mp h).1
  conv => lhs; rw [split_at h]
  rw [List.set_append_right _ _ (by rw [List.length_take]; omega), List.length_take, Nat.min_eq_left (by omega), Nat.sub_self]
  rfl
theorem RowS.set {rw : List (Int × T)} {n i : Nat} {c s : Int} {e : T} (h : RowS rw n) (hg : rw[i]? = some (c, e)) (hs : s = 1 ∨ s = -1) : RowS (rw.set i (c + s, e)) (n + 1) ∧ sumT (rw.set i (c + s, e)) = sumT rw + s * 2 ^ e.val.toNat := by
  have h1 := split_at hg
  have h2 := set_split (b := (c + s, e)) hg
  have ha := h.asc
  rw [h1] at ha
  refine ⟨⟨fun x hx => ?_, ?_, ?_, by rw [List.length_set]; have := h.len; omega⟩, ?_⟩
  · rw [h2] at hx
    rcases List.mem_append.mp hx with q | q
    · exact h.ok x (List.mem_of_mem_take q)
    · rcases List.mem_cons.mp q with q | q
      · rw [q]; exact h.ok (c, e) (List.mem_of_getElem? hg)
      · exact h.ok x (List.mem_of_mem_drop q)
  · rw [h2]
    rw [List.pairwise_append] at ha ⊢
    rw [List.pairwise_cons] at ha ⊢
    exact ⟨ha.1, ⟨fun x hx => ha.2.1.1 x hx, ha.2.1.2⟩, fun a h3 b h4 => by
      rcases List.mem_cons.mp h4 with q | q
      · rw [q]; exact ha.2.2 a h3 (c, e) (List.mem_cons_self ..)
      · exact ha.2.2 a h3 b (List.mem_cons_of_mem _ q)⟩
  · have hc := h.cnt
    have h5 : cntT rw = cntT (rw.take i) + (c.natAbs + cntT (rw.drop (i + 1))) := by conv => lhs; rw [h1, cntT_app, cntT_cons]
    rw [h2, cntT_app, cntT_cons]
    show cntT (rw.take i) + ((c + s).natAbs + cntT (rw.drop (i + 1))) ≤ n + 1
    omega
  · have h5 : sumT rw = sumT (rw.take i) + (c * 2 ^ e.val.toNat + sumT (rw.drop (i + 1))) := by conv => lhs; rw [h1, sumT_app, sumT_cons]
    rw [h2, sumT_app, sumT_cons, h5]
    show sumT (rw.take i) + ((c + s) * 2 ^ e.val.toNat + sumT (rw.drop (i + 1))) = _
    rw [Int.add_mul]
    omega
theorem RowS.ins {rw : List (Int × T)} {n i : Nat} {s : Int} {e : T} (h : RowS rw n) (hs : s = 1 ∨ s = -1) (he : SmOk e) (hlo : ∀ (j : Nat) (x : Int × T), j < i → rw[j]? = some x → x.2.val < e.val) (hhi : ∀ (j : Nat) (x : Int × T), i ≤ j → rw[j]? = some x → e.val < x.2.val) (hi : i ≤ rw.length) : RowS (rw.take i ++ [(s, e)] ++ rw.drop i) (n + 1) ∧ sumT (rw.take i ++ [(s, e)] ++ rw.drop i) = sumT rw + s * 2 ^ e.val.toNat := by
  have h1 : rw = rw.take i ++ rw.drop i := (List.take_append_drop i rw).symm
  have ha := h.asc
  rw [h1, List.pairwise_append] at ha
  have lo : ∀ x ∈ rw.take i, x.2.val < e.val := fun x hx => by
    obtain ⟨j, hj⟩ := List.getElem?_of_mem hx
    have hlt := (List.getElem?_eq_some_iff.mp hj).1
    rw [List.length_take] at hlt
    rw [List.getElem?_take_of_lt (by omega)] at hj
    exact hlo j x (by omega) hj
  have hi2 : ∀ x ∈ rw.drop i, e.val < x.2.val := fun x hx => by
    obtain ⟨j, hj⟩ := List.getElem?_of_mem hx
    rw [List.getElem?_drop] at hj
    exact hhi _ x (Nat.le_add_right _ _) hj
  refine ⟨⟨fun x hx => ?_, ?_, ?_, ?_⟩, ?_⟩
  · rw [List.append_assoc] at hx
    rcases List.mem_append.mp hx with q | q
    · exact h.ok x (List.mem_of_mem_take q)
    · rcases List.mem_cons.mp q with q | q
      · rw [q]; exact he
      · exact h.ok x (List.mem_of_mem_drop q)
  · rw [List.append_assoc, List.pairwise_append]
    refine ⟨ha.1, List.pairwise_cons.mpr ⟨fun x hx => hi2 x hx, ha.2.1⟩, fun a h3 b h4 => ?_⟩
    rcases List.mem_cons.mp h4 with q | q
    · rw [q]; exact lo a h3
    · exact ha.2.2 a h3 b q
  · have hc := h.cnt
    rw [h1, cntT_app] at hc
    rw [cntT_app, cntT_app, cntT_cons]
    show cntT (rw.take i) + (s.natAbs + cntT []) + cntT (rw.drop i) ≤ n + 1
    have : cntT [] = 0 := rfl
    omega
  · have := h.len
    rw [List.length_append, List.length_append, List.length_take, List.length_drop, List.length_singleton]
    omega
  · have h5 : sumT rw = sumT (rw.take i) + sumT (rw.drop i) := by conv => lhs; rw [h1, sumT_app]
    rw [sumT_app, sumT_app, sumT_cons, sumT_nil, h5]
    show sumT (rw.take i) + (s * 2 ^ e.val.toNat + 0) + sumT (rw.drop i) = _
    omega
theorem RowS.row {rw : List (Int × T)} {n : Nat} (h : RowS rw n) (hn : n ≤ 500) : RowOk rw rw.length ∧ cntT rw ≤ 50000 :=
  ⟨⟨fun x hx => (h.ok x hx).ex, h.asc.imp fun k => Int.le_of_lt k, fun i x hi hx => absurd (List.getElem?_eq_some_iff.mp hx).1 (by omega), by rw [List.drop_length]; exact List.Pairwise.nil, fun x hx => by have := cntT_mem hx; have := h.cnt; omega, by have := h.len; omega, Nat.le_refl _⟩, by have := h.cnt; omega⟩
end Sk
set_option Elab.async false
set_option linter.all false
set_option maxRecDepth 100000
set_option maxHeartbeats 1000000
namespace Sk
open PySem PySem.Spec PyProof.Rows L2 Evl
def iEi (K : PySem.W.Frag) (tl : TE) : TI := fun σ H R => tl σ H fun x H1 => ∃ a, x = .ref a ∧ (((∃ xs, SqL K H1 a xs) ∧ R (Itl K a) H1) ∨ ((∃ xs, SqT K H1 a xs) ∧ R (Itt K a) H1))
theorem pi_ei {X : Cx} {tg l : Expr} {tl : TE} (hl : PE X l tl) : PI X tg l (iEi X.K tl) := by
  refine ⟨fun pins s σ H R I h => ?_⟩
  refine thn (hl.run pins s σ H _ I h) fun v s1 ⟨x, H1, I1, r1, q1⟩ => ?_
  obtain ⟨a, e, q1⟩ := q1
  subst e
  cases r1
  rcases q1 with ⟨⟨xs, hq⟩, q⟩ | ⟨⟨xs, hq⟩, q⟩
  · obtain ⟨its, rv, p, hz⟩ := I1.list hq
    refine wpAny_pyIter_list p.isList ?_
    refine ⟨s1.heap.objs.size, [s1.heap.objs.size], _, _, H1, rfl, I1.kept (t' := s1.toks) fun b o e => Heap.get?_push_of_some _ e, turn_list a _, ⟨_, Heap.get?_push_size _ rfl, rfl, rfl⟩, fun b hb => ?_, q⟩
    have e : b = s1.heap.objs.size := by simpa using hb
    subst e
    exact I1.fpOk (Nat.le_refl _) (I1.hok.fresh (Nat.le_refl _))
  · obtain ⟨its, rv, p, hz⟩ := I1.tuple hq
    refine wpAny_pyIter_tuple (show s1.heap.IsTuple a its.toArray from p) ?_
    refine ⟨s1.heap.objs.size, [s1.heap.objs.size], _, _, H1, rfl, I1.kept (t' := s1.toks) fun b o e => Heap.get?_push_of_some _ e, turn_tuple a _, ⟨_, Heap.get?_push_size _ rfl, rfl, rfl⟩, fun b hb => ?_, q⟩
    have e : b = s1.heap.objs.size := by simpa using hb
    subst e
    exact I1.fpOk (Nat.le_refl _) (I1.hok.fresh (Nat.le_refl _))
section
variable {K : PySem.W.Frag} {σ : L2.St} {H : Hp} {tl : TE} {g : TG} {D : Ends} {tz tu : TS}
theorem q_forEi {a : Addr} {xs : List V} {H0 : Hp} (h : Ev tl σ H (.ref a)) (hx : SqL K H0 a xs ∨ SqT K H0 a xs) (e0 : Ex H0 H) (Pv : Nat → L2.St → Hp → Prop) (h0 : ∀ H1, Ex H H1 → Pv 0 σ H1) (hl : ∀ i σ' H', i ≤ xs.length → Pv i σ' H' → Ex H0 H')
    (hs : ∀ i x σ' H', xs[i]? = some x → Pv i σ' H' → g x σ' H' fun σ2 H2 => tu { D with nx := Pv (i + 1), ct := Pv (i + 1), bk := tz D } σ2 H2) (hd : ∀ σ' H', Pv xs.length σ' H' → tz D σ' H') : tSeq (tFor (iEi K tl) g tu) tz D σ H :=
  h H (Ex.refl H) _ fun H1 e1 => by
    refine ⟨a, rfl, ?_⟩
    rcases hx with hq | hq
    · have := q_forL (K := K) (tl := tC (.ref a)) (σ := σ) (H := H1) (D := D) (tz := tz) (tu := tu) (g := g) (xs := xs) ev_c (ex_l (e0.trans e1) hq) Pv (fun H2 e2 => h0 H2 (e1.trans e2)) (fun i σ' H' hi p => ex_l (hl i σ' H' hi p) hq) hs hd
      obtain ⟨a', e, hxs, r⟩ := this
      cases e
      exact .inl ⟨hxs, r⟩
    · have := q_forT (K := K) (tl := tC (.ref a)) (σ := σ) (H := H1) (D := D) (tz := tz) (tu := tu) (g := g) (xs := xs) ev_c (ex_t (e0.trans e1) hq) Pv (fun H2 e2 => h0 H2 (e1.trans e2)) (fun i σ' H' hi p => ex_t (hl i σ' H' hi p) hq) hs hd
      obtain ⟨a', e, hxs, r⟩ := this
      cases e
      exact .inr ⟨hxs, r⟩
end
end Sk
set_option Elab.async false
set_option linter.all false
set_option maxRecDepth 100000
set_option maxHeartbeats 1000000
namespace Sk
open PySem L2 Evl
def pBSum (K : PySem.W.Frag) : V → Hp → VP → Prop := fun x H R => ∃ (p : Addr) (ys : List V) (l : List (Int × T)), x = .ref p ∧ (SqL K H p ys ∨ SqT K H p ys) ∧ ItemsR (TermI K) l ys H ∧ l.length ≤ 500 ∧ (∀ x ∈ l, (x.1 = 1 ∨ x.1 = -1) ∧ SmOk x.2) ∧ R = fun v H' => NumV K H' v (toT (sumT l))
def sp_bare_sum (K : PySem.W.Frag) : Sp := spF1 (pBSum K)
def t_bare_sum (K : PySem.W.Frag) : TS := (tSeq (tAsg (tC (.int 0)) (gName 1))
    (tSeq (tAsg (tLst tNil) (gName 2))
    (tSeq (tFor (iEi K (tVar 0)) (gTup K 2 (gCons (gName 3) (gCons (gName 4) gNil))) (tSeq (tAsg (tCall (sp_value_within K 45) [] E0 (tCons (tVar 4) (tCons (tC (.int 9)) tNil))) (gName 5))
    (tSeq (tIfS (tTest (tOp xNotN (tVar 5) (tC .non))) (tSeq (tAug 1 (tOp xShl (tVar 3) (tVar 5)) (ipI fun i j => i + j))
    tCont) tNext)
    (tSeq (tAsg (tCall (sp_index_in K) [] E0 (tCons (tVar 2) (tCons (tVar 4) tNil))) (gName 6))
    (tIfS (tAnd (tTest (tOp xLt (tVar 6) (tCB (rLenS K) (tCons (tVar 2) tNil)))) (tTest (tOp (rEqN K) (tOp (rIxT K) (tOp (rIxL K) (tVar 2) (tVar 6)) (tC (.int 1))) (tVar 4)))) (tAsg (tTup (tCons (tOp xAdd (tOp (rIxT K) (tOp (rIxL K) (tVar 2) (tVar 6)) (tC (.int 0))) (tVar 3)) (tCons (tVar 4) tNil))) (gSub (tVar 2) (tVar 6) rSetL)) (tDrop (tBM K "list" rInsert (tVar 2) (tCons (tVar 6) (tCons (tTup (tCons (tVar 3) (tCons (tVar 4) tNil))) tNil)))))))))
    (tRet (tCall (sp_plus_small K) [] E0 (tCons (tCall (sp_settled K) [] E0 (tCons (tVar 2) (tCons (tCB (rLenS K) (tCons (tVar 2) tNil)) tNil))) (tCons (tVar 1) tNil)))))))
theorem s_insR' {K : PySem.W.Frag} {σ : L2.St} {H : Hp} {te ta tb : TE} {D : Ends} {R : VP} {l : Addr} {xs : List V} {j : Nat} (hl : H l = some (.lst xs)) (hv : Ev ta σ H (.ref l)) (hb : Ev tb σ H (.int (j : Int))) (h : ER te σ H R) (hz : xs.length < 100000) (hj : j ≤ xs.length) (k : ∀ v H1, Ex H H1 → R v H1 → D.nx σ (upd H1 l (.lst (xs.take j ++ [v] ++ xs.drop j)))) :
    tDrop (tBM K "list" rInsert ta (tCons tb (tCons te tNil))) D σ H := hv H (Ex.refl H) _ fun H1 e1 =>
  ⟨Or.inl ⟨rfl, xs, sq_of (e1 l _ hl)⟩, hb H1 e1 _ fun H2 e2 => h H2 (e1.trans e2) _ fun v H3 e3 r => ⟨l, xs, _, v, rfl, rfl, (e1.trans (e2.trans e3)) l _ hl, sz_lt hz, by omega, by omega, by rw [Int.toNat_natCast]; exact k v H3 (e1.trans (e2.trans e3)) r⟩⟩
theorem er_term {K : PySem.W.Frag} {σ : L2.St} {H : Hp} {te tf : TE} {s : Int} {e : T} (h1 : Ev te σ H (.int s)) (h2 : ER tf σ H (fun v H => NumV K H v e)) : ER (tTup (tCons te (tCons tf tNil))) σ H (TermI K (s, e)) :=
  (er_tup (ea_two (R := fun v _ => v = .int s) (R' := fun v H3 => NumV K H3 v e) (er_is h1) monoC h2 numT.mono) (fun vs Ha Hb e ⟨v, w, h1, h2, h3⟩ => ⟨v, w, h1, h2, h3.ex e⟩) (fun vs Ha ⟨v, w, h1, _⟩ => by rw [h1]; show 2 ≤ 100000; omega)).imp fun v H5 e5 ⟨q, vs, hv, hp, v', w', g1, g2, g3⟩ => ⟨q, w', hv, st_of (by rw [hp, g1, g2]), g3⟩
def PvSum (K : PySem.W.Frag) (p lr : Addr) (l : List (Int × T)) (X : Nat) (H0 : Hp) (i : Nat) (σ : L2.St) (H : Hp) : Prop := ∃ (tot : Int) (rw : List (Int × T)) (rs : List V) (z3 z4 z5 z6 : Option V), σ = [some (.ref p), some (.int tot), some (.ref lr), z3, z4, z5, z6] ∧ Ex H0 H ∧ H lr = some (.lst rs) ∧ ItemsR (TermI K) rw rs H ∧ RowS rw i ∧ tot + sumT rw = sumT (l.take i) ∧ tot.natAbs ≤ i * X
theorem RowS.up {rw : List (Int × T)} {n : Nat} (h : RowS rw n) : RowS rw (n + 1) := ⟨h.ok, h.asc, Nat.le_succ_of_le h.cnt, Nat.le_succ_of_le h.len⟩
theorem pure_bare_sum {K : PySem.W.Frag} {vs : List V} {H : Hp} {Q : VK} {E : XK} (h : sp_bare_sum K vs H Q E) : t_bare_sum K { nx := fun _ H' => Q .non H', rt := Q } (start ["terms", "total", "row", "sign", "exponent", "place", "at"] vs) H := by
  obtain ⟨x, R, rfl, ⟨p, ys, l, rfl, hp, hit, hl, hok, rfl⟩, k⟩ := h
  obtain ⟨X, hX, hX2⟩ : ∃ X : Nat, (∀ n : Nat, n ≤ 1024 → 2 ^ n ≤ X) ∧ 500 * X ≤ 2 ^ 1033 := by
    refine ⟨2 ^ 1024, fun n hn => Nat.pow_le_pow_right (by decide) hn, ?_⟩
    have h1 : (2 : Nat) ^ (9 + 1024) = 2 ^ 9 * 2 ^ 1024 := Nat.pow_add 2 9 1024
    have h2 : (2 : Nat) ^ 1033 = 2 ^ (9 + 1024) := rfl
    rw [h2, h1]
    exact Nat.mul_le_mul_right _ (by decide)
  refine q_asg ev_c fun H1 e1 => ?_
  refine q_asgL (el_lst ea_nil (by decide)) fun lr H2 hlr e2 h2 => ?_
  have hlr0 : H lr = none := fresh_back e1 hlr
  refine q_forEi (xs := ys) (ev_var rfl) hp (e1.trans e2) (PvSum K p lr l X H) (fun H3 e3 => ⟨0, [], [], none, none, none, none, rfl, e1.trans (e2.trans e3), e3 lr _ h2, .nil, ⟨fun x hx => absurd hx List.not_mem_nil, List.Pairwise.nil, Nat.le_refl _, Nat.le_refl _⟩, rfl, by simp⟩) (fun i σ' H' _ ⟨_, _, _, _, _, _, _, _, e, _⟩ => e) ?_ ?_
  · rintro i y σ' H' hy ⟨tot, rw, rs, z3, z4, z5, z6, rfl, e3, h3, hir, hS, hsum, htot⟩
    obtain ⟨⟨s, e⟩, hget, q, w, rfl, hq, hw⟩ := hit.of_at hy
    have hi : i < l.length := (List.getElem?_eq_some_iff.mp hget).1
    obtain ⟨hs, he⟩ := hok (s, e) (List.mem_of_getElem? hget)
    have he : SmOk e := he
    have hs : s = 1 ∨ s = -1 := hs
    have htk : sumT (l.take (i + 1)) = sumT (l.take i) + s * 2 ^ e.val.toNat := by rw [take_snoc hget, sumT_app, sumT_cons, sumT_nil]; show sumT (l.take i) + (s * 2 ^ e.val.toNat + 0) = _; omega
    have hrl : rs.length ≤ 500 := by rw [hir.1]; have := hS.len; omega
    refine g_pair (ex_t e3 hq) ?_
    refine q_asgR (er_call2 (R1 := fun v H => NumV K H v e) (R2 := fun v _ => v = .int ((9 : Nat) : Int)) (R := fun v _ => v = optV (e.within 9)) (er_var rfl fun H5 e5 => hw.ex (e3.trans e5)) numT.mono (er_is ev_c) monoC fun v w' H5 e5 k1 k2 => ⟨e, 9, k1, k2, nn_of_can he.can (by have := he.sz; omega), by have := he.ht; omega, by omega, by have := he.ln; omega, rfl⟩) fun v H4 e4 hv => ?_
    subst hv
    cases hq9 : e.within 9 with
    | some pl =>
      have hvq := within_val _ _ _ hq9
      have hbq := within_bound he.can hq9
      have hnn := he.nn
      have hpl : 0 ≤ pl ∧ pl ≤ 1024 := ⟨by omega, by
        have h10 : (2 : Nat) ^ (9 + 1) = 1024 := by decide
        rw [h10] at hbq
        omega⟩
      refine q_when (b := true) (et_test (ev_is (ev_notN (ev_var rfl)) rfl)) (fun _ H5 e5 => ?_) (fun h => by cases h)
      refine q_aug (a := tot) (b := s * 2 ^ pl.toNat) rfl (ev_shl (ev_var rfl) (ev_var rfl) ⟨hpl.1, by omega, by rcases hs with h | h <;> rw [h] <;> decide⟩) fun H6 e6 => ?_
      unfold tCont
      dsimp only
      refine ⟨tot + s * 2 ^ pl.toNat, rw, rs, _, _, _, _, rfl, e3.trans (e4.trans (e5.trans e6)), (e4.trans (e5.trans e6)) lr _ h3, hir.ex (fun x => (termI x).mono) (e4.trans (e5.trans e6)), hS.up, by rw [htk, ← hvq]; omega, ?_⟩
      have h7 := hX pl.toNat (by omega)
      have h8 : (s * 2 ^ pl.toNat).natAbs = 2 ^ pl.toNat := by
        rw [Int.natAbs_mul, Int.natAbs_pow]
        rcases hs with h | h <;> rw [h] <;> simp
      have h9 := Int.natAbs_add_le tot (s * 2 ^ pl.toNat)
      rw [Nat.succ_mul]
      omega
    | none =>
      refine q_when (b := false) (et_test (ev_is (ev_notN (ev_var rfl)) rfl)) (fun h => by cases h) (fun _ H5 e5 => ?_)
      have e35 := e3.trans (e4.trans e5)
      have hirx : ∀ {H6}, Ex H5 H6 → ItemsR (TermI K) rw rs H6 := fun e => hir.ex (fun x => (termI x).mono) ((e4.trans e5).trans e)
      refine q_asgR (R := fun v _ => ∃ n : Nat, v = .int (n : Int) ∧ n ≤ rw.length ∧ (∀ (i : Nat) (x : Int × T), i < n → rw[i]? = some x → x.2.val < e.val) ∧ (∀ (i : Nat) (x : Int × T), n ≤ i → rw[i]? = some x → e.val ≤ x.2.val)) (er_call2 (R1 := fun v H' => v = .ref lr ∧ H' lr = some (.lst rs) ∧ ItemsR (TermI K) rw rs H') (R2 := fun v H => NumV K H v e) (er_var rfl fun H6 e6 => ⟨rfl, (e4.trans (e5.trans e6)) lr _ h3, hirx e6⟩) (fun v Ha Hb e ⟨g1, g2, g3⟩ => ⟨g1, e lr _ g2, g3.ex (fun x => (termI x).mono) e⟩) (er_var rfl fun H6 e6 => hw.ex (e35.trans e6)) numT.mono
        fun v w H6 e6 ⟨g1, g2, g3⟩ g4 => ⟨lr, rs, rw, e, g1, g2, g3, g4, hS.ok, he, hS.asc.imp fun k => Int.le_of_lt k, by have := hS.len; omega, rfl⟩) fun v H6 e6 ⟨n, hv, hn, hlo, hhi⟩ => ?_
      subst hv
      have e46 := e4.trans (e5.trans e6)
      have h6 := e46 lr _ h3
      have hlen : rs.length = rw.length := hir.1
      refine s_if (b := decide ((n : Int) < (rw.length : Int)) && decide ((rw.getD n (0, .nil)).2 = e)) (et_and (et_test (ev_is (ev_lt (ev_var rfl) (ev_lenL (ev_var rfl) (sq_of h6))) (by rw [hlen]))) fun hlt => ?_) (fun hb H7 e7 => ?_) (fun hb H7 e7 => ?_)
      · have hlt' : n < rw.length := by have := of_decide_eq_true hlt; omega
        have hg : rw[n]? = some (rw.getD n (0, .nil)) := by rw [List.getD_eq_getElem?_getD, List.getElem?_eq_getElem hlt']; rfl
        obtain ⟨yv, hyv, q', w', rfl, hq', hw'⟩ := hir.at hg
        have ho := hS.ok _ (List.mem_of_getElem? hg)
        exact et_test (ev_eqN (er_ev (ev_rowE (s := (rw.getD n (0, .nil)).1) (ev_var rfl) (ev_var rfl) h6 hyv (ex_t e46 hq')) fun H8 e8 => hw'.ex (e46.trans e8)) (er_var rfl fun H8 e8 => hw.ex (e3.trans (e46.trans e8))) (by have := ho.ht; omega))
      · rw [Bool.and_eq_true, decide_eq_true_eq, decide_eq_true_eq] at hb
        have hlt' : n < rw.length := by omega
        have hg0 : rw[n]? = some (rw.getD n (0, .nil)) := by rw [List.getD_eq_getElem?_getD, List.getElem?_eq_getElem hlt']; rfl
        have hg : rw[n]? = some ((rw.getD n (0, .nil)).1, e) := by rw [hg0]; exact congrArg some (Prod.ext rfl hb.2)
        generalize (rw.getD n (0, .nil)).1 = c at hg
        obtain ⟨yv, hyv, q', w', rfl, hq', hw'⟩ := hir.at hg
        obtain ⟨g1, g2⟩ := hS.set hg hs
        have h7 := e7 lr _ h6
        refine s_setR (j := n) h7 (er_term (s := c + s) (e := e) (ev_add (ev_rowS (w := w') (ev_var rfl) (ev_var rfl) h7 hyv (ex_t (e46.trans e7) hq')) (ev_var rfl)) (er_var rfl fun H8 e8 => hw.ex (e3.trans ((e46.trans e7).trans e8)))) (ev_var rfl) (ev_var rfl) (by omega) (termI _).mono fun v H8 e8 hv => ⟨tot, rw.set n (c + s, e), rs.set n v, _, _, _, _, rfl, Ex.mut (e3.trans (e46.trans (e7.trans e8))) hlr0, upd_same, ?_, g1, by rw [g2, htk, ← hsum]; omega, by rw [Nat.succ_mul]; omega⟩
        exact (ItemsR.set (hir.ex (fun x => (termI x).mono) (e46.trans (e7.trans e8))) hv).tex termI (TEx.put (e8 lr _ h7))
      · have hstr : ∀ (j : Nat) (x : Int × T), n ≤ j → rw[j]? = some x → e.val < x.2.val := fun j x hj hx => by
          have h1 := hhi j x hj hx
          rcases Int.lt_or_eq_of_le h1 with h2 | h2
          · exact h2
          · exfalso
            have hjl := (List.getElem?_eq_some_iff.mp hx).1
            have hlt' : n < rw.length := by omega
            have hg0 : rw[n]? = some (rw.getD n (0, .nil)) := by rw [List.getD_eq_getElem?_getD, List.getElem?_eq_getElem hlt']; rfl
            have h3 := hhi n _ (Nat.le_refl _) hg0
            have h4 : (rw.getD n (0, .nil)).2.val ≤ x.2.val := asc_at (hS.asc.imp fun k => Int.le_of_lt k) hg0 hx hj
            have h5 : (rw.getD n (0, .nil)).2 = e := can_uniq (hS.ok _ (List.mem_of_getElem? hg0)).can he.can (by omega)
            rw [decide_eq_true (by omega), decide_eq_true h5] at hb
            cases hb
        obtain ⟨g1, g2⟩ := hS.ins hs he hlo hstr hn
        have h7 := e7 lr _ h6
        refine s_insR' (j := n) h7 (ev_var rfl) (ev_var rfl) (er_term (s := s) (e := e) (ev_var rfl) (er_var rfl fun H8 e8 => hw.ex (e3.trans ((e46.trans e7).trans e8)))) (by omega) (by omega) fun v H8 e8 hv => ⟨tot, rw.take n ++ [(s, e)] ++ rw.drop n, _, _, _, _, _, rfl, Ex.mut (e3.trans (e46.trans (e7.trans e8))) hlr0, upd_same, ?_, g1, by rw [g2, htk, ← hsum]; omega, by rw [Nat.succ_mul]; omega⟩
        exact (ItemsR.ins n (hir.ex (fun x => (termI x).mono) (e46.trans (e7.trans e8))) hv).tex termI (TEx.put (e8 lr _ h7))
  · rintro σ' H' ⟨tot, rw, rs, z3, z4, z5, z6, rfl, e3, h3, hir, hS, hsum, htot⟩
    have hyl : ys.length = l.length := hit.1
    rw [hyl] at hS hsum htot
    rw [List.take_length] at hsum
    obtain ⟨r1, r2⟩ := hS.row hl
    have hlen : rs.length = rw.length := hir.1
    have hcl := hS.cnt
    have htb : tot.natAbs ≤ 2 ^ 1033 := Nat.le_trans htot (Nat.le_trans (Nat.mul_le_mul_right X hl) hX2)
    refine s_retR (er_call (R := fun v H' => ∃ r, NumV K H' v r ∧ r.can ∧ r.val = sumT rw + tot) (ea_two (R := fun v H' => ∃ u, NumV K H' v u ∧ Settled rw u) (R' := fun v _ => v = .int tot)
      (er_call2 (R1 := fun v H' => v = .ref lr ∧ H' lr = some (.lst rs) ∧ ItemsR (TermI K) rw rs H') (R2 := fun v _ => v = .int (rw.length : Int)) (er_var rfl fun H6 e6 => ⟨rfl, e6 lr _ h3, hir.ex (fun x => (termI x).mono) e6⟩) (fun v Ha Hb e ⟨g1, g2, g3⟩ => ⟨g1, e lr _ g2, g3.ex (fun x => (termI x).mono) e⟩) (er_is (ev_is (ev_lenL (ev_var rfl) (sq_of h3)) (by rw [hlen]))) monoC fun v w H6 e6 ⟨g1, g2, g3⟩ g4 => ⟨lr, rs, rw, rw.length, g1, g2, g3, g4, r1, r2, rfl⟩)
      (fun v Ha Hb e ⟨u, g1, g2⟩ => ⟨u, g1.ex e, g2⟩) (er_is (ev_var rfl)) monoC) fun vs H6 e6 ⟨v, w, hv, ⟨u, g1, g2⟩, g3⟩ => ?_) fun v H6 e6 ⟨r, g1, g2, g3⟩ => k _ _ (e3.trans e6) ?_
    · subst hv
      obtain ⟨d1, d2, d3, d4⟩ := g2
      have dx : ∀ x ∈ u.toL, x.2.size < 90000 ∧ x.2.height + 1 ≤ 43 := fun x hx => by
        obtain ⟨y, hy, n1, n2⟩ := d4 x hx
        have hy' := hS.ok y hy
        have := hy'.sz
        have := hy'.ht
        have := hy'.ln
        exact ⟨by omega, by omega⟩
      exact fun Q E q => ⟨v, w, _, rfl, ⟨u, tot, 1033, g1, g3, d1, height_le_of fun x hx => (dx x hx).2, fun x hx => (dx x hx).1, by omega, htb, rfl⟩, fun v' H' e' ⟨r, a1, a2, a3, _⟩ => q v' H' e' ⟨r, a1, a2, by rw [a3, d2]⟩⟩
    · have : sumT l = r.val := by rw [g3, ← hsum]; omega
      rw [this, ← can_eq g2]
      exact g1
end Sk
set_option Elab.async false
set_option linter.all false
set_option maxRecDepth 100000
set_option maxHeartbeats 1000000
set_option Elab.async false
set_option linter.all false
set_option maxRecDepth 100000
set_option maxHeartbeats 1000000
namespace Sk
open PySem L2 Evl
def TmOk (l : List (Int × T)) : Prop := ∀ x ∈ l, (x.1 = 1 ∨ x.1 = -1) ∧ 0 ≤ x.2.val
def pSumTerms (K : PySem.W.Frag) (CN CL : Addr) : V → Hp → VP → WP → Prop := fun x H R W => ∃ (p : Addr) (ys : List V) (l : List (Int × T)), x = .ref p ∧ H p = some (.lst ys) ∧ ItemsR (TermI K) l ys H ∧ (∀ x ∈ l, x.2.can) ∧ (¬ TmOk l → W CN) ∧ (TmOk l → 400 < l.length → W CL) ∧
  (TmOk l → l.length ≤ 400 → (∀ x ∈ l, SmOk x.2) ∧ (toT (sumT l)).szk ∧ ((toT (sumT l)).fits → ∀ v H', NumV K H' v (toT (sumT l)) → R v H') ∧ (¬ (toT (sumT l)).fits → W CL))
def sp_sum_terms (K : PySem.W.Frag) (CN CL : Addr) : Sp := spX1 K (pSumTerms K CN CL)
def t_sum_terms (K : PySem.W.Frag) (a_NotAllowed : Addr) (a_TooLarge : Addr) (E : XK) : TS := (tSeq (tFor (iList K (tVar 0)) (gTup K 2 (gCons (gName 1) (gCons (gName 2) gNil))) (tIfS (tOr (tTest (tOp (rIn K true) (tVar 1) (tTup (tCons (tC (.int 1)) (tCons (tUn xNeg (tC (.int 1))) tNil))))) (tTest (tOp xLt (tCall (sp_sign_of K) [] E0 (tCons (tVar 2) tNil)) (tC (.int 0))))) (tRaise K E a_NotAllowed) tNext))
    (tSeq (tIfS (tTest (tOp xGt (tCB (rLenS K) (tCons (tVar 0) tNil)) (tC (.int 400)))) (tRaise K E a_TooLarge) tNext)
    (tRet (tCall (sp_allowed K a_TooLarge) [] E (tCons (tCall (sp_bare_sum K) [] E0 (tCons (tVar 0) tNil)) tNil)))))
theorem pure_sum_terms {K : PySem.W.Frag} {CN CL : Addr} {vs : List V} {H : Hp} {Q : VK} {E : XK} (h : sp_sum_terms K CN CL vs H Q E) : t_sum_terms K CN CL E { nx := fun _ H' => Q .non H', rt := Q } (start ["terms", "sign", "exponent"] vs) H := by
  obtain ⟨x, R, W, rfl, ⟨p, ys, l, rfl, hp, hit, hcan, hN, hL, hM⟩, k, kE⟩ := h
  have hyl : ys.length = l.length := hit.1
  refine q_forL (xs := ys) (ev_var rfl) (sq_of hp) (fun i σ H' => ∃ z1 z2, σ = [some (.ref p), z1, z2] ∧ Ex H H' ∧ TmOk (l.take i)) (fun H1 e1 => ⟨none, none, rfl, e1, fun x hx => by cases hx⟩) (fun i σ' H' _ ⟨_, _, _, e, _⟩ => sq_of (e p _ hp)) ?_ ?_
  · rintro i y σ' H' hy ⟨z1, z2, rfl, e1, hok⟩
    obtain ⟨⟨s, e⟩, hget, q, w, rfl, hq, hw⟩ := hit.of_at hy
    have hm := List.mem_of_getElem? hget
    have hc : e.can := hcan (s, e) hm
    have hsg := can_sgn hc
    refine g_pair (ex_t e1 hq) ?_
    refine s_when (b := (!decide (s = 1 ∨ s = -1)) || decide (e.sgn < 0)) (et_or (et_test (ev_signIn rfl)) fun _ => et_test (ev_lt (ev_er (er_call1 (R1 := fun v H => NumV K H v e) (er_var rfl fun H2 e2 => hw.ex (e1.trans e2)) numT.mono fun v H2 e2 g => ⟨_, g, rfl⟩)) ev_c)) (fun hb H2 e2 => ?_) (fun hb H2 e2 => ?_)
    · refine (fun Hz ez => kE CN Hz ((e1.trans e2).trans ez) (hN fun h => ?_))
      obtain ⟨h1, h2⟩ := h (s, e) hm
      have h1 : s = 1 ∨ s = -1 := h1
      have h2 : 0 ≤ e.val := h2
      rw [decide_eq_true h1, decide_eq_false (by omega)] at hb
      cases hb
    · refine ⟨_, _, rfl, e1.trans e2, fun x hx => ?_⟩
      rw [take_snoc hget] at hx
      rcases List.mem_append.mp hx with k1 | k1
      · exact hok x k1
      · rw [List.mem_singleton.mp k1]
        rw [Bool.or_eq_false_iff, Bool.not_eq_false', decide_eq_true_eq, decide_eq_false_iff_not] at hb
        exact ⟨hb.1, by show 0 ≤ e.val; have := hb.2; omega⟩
  · rintro σ' H' ⟨z1, z2, rfl, e1, hok⟩
    rw [hyl, List.take_length] at hok
    refine q_when (et_test (ev_gt (ev_lenL (ev_var rfl) (sq_of (e1 p _ hp))) ev_c)) (fun hb H2 e2 => ?_) (fun hb H2 e2 => ?_)
    · exact (fun Hz ez => kE CL Hz ((e1.trans e2).trans ez) (hL hok (by have := of_decide_eq_true hb; omega)))
    obtain ⟨m1, m2, m3, m4⟩ := hM hok (by have := of_decide_eq_false hb; omega)
    have e12 := e1.trans e2
    exact x_call1 (R1 := fun v H => NumV K H v (toT (sumT l))) (er_call1 (R1 := fun v H' => v = .ref p ∧ H' p = some (.lst ys) ∧ ItemsR (TermI K) l ys H') (er_var rfl fun H3 e3 => ⟨rfl, (e12.trans e3) p _ hp, hit.ex (fun a => (termI a).mono) (e12.trans e3)⟩) (fun v Ha Hb e ⟨g1, g2, g3⟩ => ⟨g1, e p _ g2, g3.ex (fun a => (termI a).mono) e⟩) fun v H3 e3 ⟨g1, g2, g3⟩ => ⟨p, ys, l, g1, .inl (sq_of g2), g3, by have := of_decide_eq_false hb; omega, fun x hx => ⟨(hok x hx).1, m1 x hx⟩, rfl⟩) numT.mono _ fun v H3 e3 g => ⟨R, W, ⟨_, g, m2, m3, m4⟩, fun w H4 e4 hw => k w H4 (e12.trans (e3.trans e4)) hw, fun C H4 e4 hC => kE C H4 (e12.trans (e3.trans e4)) hC⟩
end Sk
set_option Elab.async false
set_option linter.all false
set_option maxRecDepth 100000
set_option maxHeartbeats 1000000
namespace Sk
def SS (p : Nat) : Int := ((toT (p : Int)).size : Int)
def FF (n : Int) (p : Nat) : Int := ((naf n p).map fun x => SS x.2).sum
theorem FF_zero (p : Nat) : FF 0 p = 0 := by unfold FF; rw [naf_zero]; rfl
theorem FF_even {n : Int} (h : n % 2 = 0) (p : Nat) : FF n p = FF (n / 2) (p + 1) := by unfold FF; rw [naf_even h]
theorem FF_odd {n : Int} (h : n % 2 = 1) (p : Nat) : FF n p = SS p + FF ((n - (2 - n % 4)) / 2) (p + 1) := by unfold FF; rw [naf_odd h, List.map_cons, List.sum_cons]
theorem size_FF (n : Int) : ((toT n).size : Int) = 1 + FF n 0 := by
  rw [size_toT, List.map_map]
  have h : ∀ l : List (Int × Nat), (((l.map ((fun p : Nat => (toT (p : Int)).size) ∘ fun x => x.2)).sum : Nat) : Int) = (l.map fun x => SS x.2).sum := by
    intro l
    induction l with
    | nil => rfl
    | cons x l ih => rw [List.map_cons, List.map_cons, List.sum_cons, List.sum_cons, ← ih]; rfl
  have := h (naf n 0)
  unfold FF
  omega
theorem SS_pos (p : Nat) : 1 ≤ SS p := by
  have h := size_FF (p : Int)
  have h0 : ∀ l : List (Int × Nat), 0 ≤ (l.map fun x => SS x.2).sum := by
    intro l
    induction l with
    | nil => exact Int.le_refl _
    | cons x l ih => rw [List.map_cons, List.sum_cons]; have : 0 ≤ SS x.2 := Int.natCast_nonneg _; omega
  have := h0 (naf (p : Int) 0)
  unfold FF at h
  show 1 ≤ ((toT (p : Int)).size : Int)
  omega
/-- one more: how much the places' sizes may grow -/
def BE : Nat → Nat → Int
  | 0, p => SS p
  | t + 1, p => max (SS p) (SS p + max (-SS (p + 1)) (-SS (p + 1) + BE t (p + 2)))
def BO : Nat → Nat → Int
  | 0, _ => 0
  | t + 1, p => max (-SS p) (-SS p + BE t (p + 1))
theorem grow : ∀ (t : Nat), (∀ (p : Nat) (n : Int), (naf n p).length ≤ t → n % 2 = 1 → FF (n + 1) p ≤ FF n p + BO t p) ∧ (∀ (p : Nat) (n : Int), (naf n p).length ≤ t → n % 2 = 0 → FF (n + 1) p ≤ FF n p + BE t p) := by
  intro t
  induction t with
  | zero =>
    refine ⟨fun p n hl h => ?_, fun p n hl h => ?_⟩
    · rw [naf_odd h] at hl; cases hl
    · have h4 : n % 4 = 0 ∨ n % 4 = 2 := by omega
      rcases h4 with q | q
      · rw [FF_odd (n := n + 1) (by omega), FF_even h, show (n + 1 - (2 - (n + 1) % 4)) / 2 = n / 2 by omega]
        show _ ≤ _ + SS p
        omega
      · rw [naf_even h, naf_odd (by omega)] at hl; cases hl
  | succ t ih =>
    have odd : ∀ (p : Nat) (n : Int), (naf n p).length ≤ t + 1 → n % 2 = 1 → FF (n + 1) p ≤ FF n p + BO (t + 1) p := by
      intro p n hl h
      rw [naf_odd h, List.length_cons] at hl
      have h4 : n % 4 = 1 ∨ n % 4 = 3 := by omega
      rw [FF_odd h, FF_even (n := n + 1) (by omega)]
      show _ ≤ _ + max (-SS p) (-SS p + BE t (p + 1))
      rcases h4 with q | q
      · have e1 : (n - (2 - n % 4)) / 2 = (n - 1) / 2 := by omega
        have e2 : (n + 1) / 2 = (n - 1) / 2 + 1 := by omega
        rw [e1] at hl ⊢
        have := ih.2 (p + 1) ((n - 1) / 2) (by omega) (by omega)
        rw [e2]
        omega
      · rw [show (n - (2 - n % 4)) / 2 = (n + 1) / 2 by omega]
        omega
    refine ⟨odd, fun p n hl h => ?_⟩
    show _ ≤ _ + max (SS p) (SS p + max (-SS (p + 1)) (-SS (p + 1) + BE t (p + 2)))
    have h4 : n % 4 = 0 ∨ n % 4 = 2 := by omega
    rw [FF_odd (n := n + 1) (by omega), FF_even h]
    rcases h4 with q | q
    · rw [show (n + 1 - (2 - (n + 1) % 4)) / 2 = n / 2 by omega]
      omega
    · rw [naf_even h] at hl
      have := odd (p + 1) (n / 2) hl (by omega)
      rw [show (n + 1 - (2 - (n + 1) % 4)) / 2 = n / 2 + 1 by omega]
      have e : BO (t + 1) (p + 1) = max (-SS (p + 1)) (-SS (p + 1) + BE t (p + 2)) := rfl
      rw [e] at this
      omega
theorem SS_tb (p : Nat) (h : p < 14) : SS p = (tb.getD p 0 : Nat) := by rw [tb_eq p h]; rfl
theorem SS_succ {e : Nat} (h : wt (e : Int) ≤ 4) : SS (e + 1) ≤ SS e + 4 := by
  have h0 : SS 0 = 1 := SS_tb 0 (by decide)
  have h1 : SS 1 = 2 := SS_tb 1 (by decide)
  have h2 : SS 2 = 3 := SS_tb 2 (by decide)
  have h3 : SS 3 = 5 := SS_tb 3 (by decide)
  have h4 : SS 4 = 4 := SS_tb 4 (by decide)
  have h5 : SS 5 = 5 := SS_tb 5 (by decide)
  have h6 : SS 6 = 8 := SS_tb 6 (by decide)
  have h7 : SS 7 = 7 := SS_tb 7 (by decide)
  have h8 : SS 8 = 6 := SS_tb 8 (by decide)
  have b0 : BE 0 8 = 6 := by show SS 8 = 6; exact h8
  have b0' : BE 0 7 = 7 := by show SS 7 = 7; exact h7
  have b1 : BE 1 6 = 8 := by show max (SS 6) (SS 6 + max (-SS 7) (-SS 7 + BE 0 8)) = 8; rw [h6, h7, b0] <;> decide
  have b2 : BE 2 4 = 7 := by show max (SS 4) (SS 4 + max (-SS 5) (-SS 5 + BE 1 6)) = 7; rw [h4, h5, b1] <;> decide
  have b3 : BE 3 2 = 5 := by show max (SS 2) (SS 2 + max (-SS 3) (-SS 3 + BE 2 4)) = 5; rw [h2, h3, b2] <;> decide
  have b4 : BE 4 0 = 4 := by show max (SS 0) (SS 0 + max (-SS 1) (-SS 1 + BE 3 2)) = 4; rw [h0, h1, b3] <;> decide
  have c1 : BE 1 5 = 5 := by show max (SS 5) (SS 5 + max (-SS 6) (-SS 6 + BE 0 7)) = 5; rw [h5, h6, b0'] <;> decide
  have c2 : BE 2 3 = 6 := by show max (SS 3) (SS 3 + max (-SS 4) (-SS 4 + BE 1 5)) = 6; rw [h3, h4, c1] <;> decide
  have c3 : BE 3 1 = 5 := by show max (SS 1) (SS 1 + max (-SS 2) (-SS 2 + BE 2 3)) = 5; rw [h1, h2, c2] <;> decide
  have o4 : BO 4 0 = 4 := by show max (-SS 0) (-SS 0 + BE 3 1) = 4; rw [h0, c3] <;> decide
  have hl : (naf (e : Int) 0).length ≤ 4 := h
  have hs : SS (e + 1) = 1 + FF ((e : Int) + 1) 0 := by have := size_FF ((e : Int) + 1); unfold SS; rw [show (((e + 1 : Nat)) : Int) = (e : Int) + 1 by omega]; exact this
  have he : SS e = 1 + FF (e : Int) 0 := size_FF _
  rcases Int.emod_two_eq (e : Int) with q | q
  · have := (grow 4).2 0 (e : Int) hl q
    omega
  · have := (grow 4).1 0 (e : Int) hl q
    omega
end Sk
set_option Elab.async false
set_option linter.all false
set_option maxRecDepth 100000
set_option maxHeartbeats 1000000
namespace Sk
def FW (w : Nat → Int) (n : Int) (p : Nat) : Int := ((naf n p).map fun x => w x.2).sum
def mw (w : Nat → Int) (q : Nat) : Int := max (w q) (w (q + 1))
section
variable {w : Nat → Int}
theorem FW_zero (p : Nat) : FW w 0 p = 0 := by unfold FW; rw [naf_zero]; rfl
theorem FW_even {n : Int} (h : n % 2 = 0) (p : Nat) : FW w n p = FW w (n / 2) (p + 1) := by unfold FW; rw [naf_even h]
theorem FW_odd {n : Int} (h : n % 2 = 1) (p : Nat) : FW w n p = w p + FW w ((n - (2 - n % 4)) / 2) (p + 1) := by unfold FW; rw [naf_odd h, List.map_cons, List.sum_cons]
theorem FW_mono {w' : Nat → Int} (h : ∀ q, w q ≤ w' q) (n : Int) (p : Nat) : FW w n p ≤ FW w' n p := by
  unfold FW
  induction naf n p with
  | nil => exact Int.le_refl _
  | cons x l ih => rw [List.map_cons, List.sum_cons, List.map_cons, List.sum_cons]; have := h x.2; omega
theorem le_mw (q : Nat) : w q ≤ mw w q ∧ w (q + 1) ≤ mw w q := by unfold mw; omega
theorem FW_pm {s : Int} (h : s = 1 ∨ s = -1) (p : Nat) : FW w s p = w p := by
  rcases h with rfl | rfl
  · rw [FW_odd (by decide), show ((1 : Int) - (2 - 1 % 4)) / 2 = 0 by decide, FW_zero, Int.add_zero]
  · rw [FW_odd (by decide), show ((-1 : Int) - (2 - (-1) % 4)) / 2 = 0 by decide, FW_zero, Int.add_zero]
/-- an odd number's sign, and the rest, which is even -/
theorem odd_cut {n : Int} (h : n % 2 = 1) : ∃ s m : Int, (s = 1 ∨ s = -1) ∧ n = s + 4 * m ∧ (n - (2 - n % 4)) / 2 = 2 * m ∧ m.natAbs + m.natAbs ≤ n.natAbs ∧ m.natAbs < n.natAbs := by
  rcases (show n % 4 = 1 ∨ n % 4 = 3 by omega) with q | q
  · exact ⟨1, (n - 1) / 4, .inl rfl, by omega, by omega, by omega, by omega⟩
  · exact ⟨-1, (n + 1) / 4, .inr rfl, by omega, by omega, by omega, by omega⟩
theorem FW_cut {s m : Int} (h : s = 1 ∨ s = -1) (p : Nat) : FW w (s + 4 * m) p = w p + FW w (2 * m) (p + 1) := by
  rw [FW_odd (by omega)]
  congr 2
  rcases h with rfl | rfl <;> omega
theorem addW (hw : ∀ q, 0 ≤ w q) : ∀ (k : Nat) (a b : Int), a.natAbs + b.natAbs ≤ k → ∀ p : Nat, FW w (a + b) p ≤ FW (mw w) a p + FW (mw w) b p ∧
    ∀ c : Int, (c = 1 ∨ c = -1) → ¬ (a % 2 = 1 ∧ b % 2 = 1) → FW w (a + b + c) p ≤ FW (mw w) a p + FW (mw w) b p + w p ∧ ((a + b + c) % 2 = 0 → FW w (a + b + c) p ≤ FW (mw w) a p + FW (mw w) b p) := by
  intro k
  induction k with
  | zero =>
    intro a b h p
    have ha : a = 0 := by omega
    have hb : b = 0 := by omega
    subst ha hb
    rw [FW_zero]
    refine ⟨by rw [show (0 : Int) + 0 = 0 from rfl, FW_zero]; decide, fun c hc _ => ⟨?_, fun h => by omega⟩⟩
    rw [show (0 : Int) + 0 + c = c by omega, FW_pm hc]
    have := hw p
    omega
  | succ k ih =>
    -- one odd, one even
    have one : ∀ a b : Int, a.natAbs + b.natAbs ≤ k + 1 → a % 2 = 1 → b % 2 = 0 → ∀ p, FW w (a + b) p ≤ FW (mw w) a p + FW (mw w) b p ∧ ∀ c : Int, (c = 1 ∨ c = -1) → FW w (a + b + c) p ≤ FW (mw w) a p + FW (mw w) b p := by
      intro a b h ha hb p
      obtain ⟨s, m, hs, hm, _, h1, h2⟩ := odd_cut ha
      have hb2 : b = 2 * (b / 2) := by omega
      have hle : (2 * m).natAbs + (b / 2).natAbs ≤ k := by omega
      have i1 := ih (2 * m) (b / 2) hle (p + 1)
      have eA : FW (mw w) a p = mw w p + FW (mw w) (2 * m) (p + 1) := by rw [hm, FW_cut hs]
      have eB : FW (mw w) b p = FW (mw w) (b / 2) (p + 1) := FW_even hb p
      have hmw := le_mw (w := w) p
      rw [eA, eB]
      refine ⟨?_, fun c hc => ?_⟩
      · obtain ⟨d, r, hd, hr, er, _, _⟩ := odd_cut (n := a + b) (by omega)
        rw [FW_odd (by omega), er]
        by_cases hds : d = s
        · have : 2 * r = 2 * m + b / 2 := by omega
          rw [this]
          have := i1.1
          omega
        · have e : 2 * r = 2 * m + b / 2 + s := by omega
          rw [e]
          have := (i1.2 s hs (by omega)).2 (by omega)
          omega
      · have e : (a + b + c) / 2 = 2 * m + b / 2 + (s + c) / 2 := by omega
        rw [FW_even (by omega), e]
        have hc2 : (s + c) / 2 = 0 ∨ ((s + c) / 2 = 1 ∨ (s + c) / 2 = -1) := by omega
        have hn := hw (p + 1)
        have hn' := hw p
        rcases hc2 with q | q
        · rw [q, Int.add_zero]
          have := i1.1
          omega
        · have := (i1.2 _ q (by omega)).1
          omega
    intro a b h p
    rcases (show a % 2 = 0 ∨ a % 2 = 1 by omega) with ha | ha <;> rcases (show b % 2 = 0 ∨ b % 2 = 1 by omega) with hb | hb
    · -- both even
      by_cases hz : a = 0 ∧ b = 0
      · obtain ⟨rfl, rfl⟩ := hz
        rw [FW_zero]
        refine ⟨by rw [show (0 : Int) + 0 = 0 from rfl, FW_zero]; decide, fun c hc _ => ⟨?_, fun h => by omega⟩⟩
        rw [show (0 : Int) + 0 + c = c by omega, FW_pm hc]
        omega
      have hle : (a / 2).natAbs + (b / 2).natAbs ≤ k := by omega
      have i1 := ih (a / 2) (b / 2) hle (p + 1)
      have eA : FW (mw w) a p = FW (mw w) (a / 2) (p + 1) := FW_even ha p
      have eB : FW (mw w) b p = FW (mw w) (b / 2) (p + 1) := FW_even hb p
      rw [eA, eB]
      refine ⟨?_, fun c hc _ => ⟨?_, fun h => by omega⟩⟩
      · rw [FW_even (by omega), show (a + b) / 2 = a / 2 + b / 2 by omega]
        exact i1.1
      · obtain ⟨d, r, hd, hr, er, _, _⟩ := odd_cut (n := a + b + c) (by omega)
        rw [FW_odd (by omega), er]
        by_cases hds : d = c
        · have e : 2 * r = a / 2 + b / 2 := by omega
          rw [e]
          have := i1.1
          omega
        · have e : 2 * r = a / 2 + b / 2 + c := by omega
          rw [e]
          have := (i1.2 c hc (by omega)).2 (by omega)
          omega
    · have o := one b a (by omega) hb ha p
      have hn := hw p
      refine ⟨by rw [Int.add_comm a b]; have := o.1; omega, fun c hc _ => ?_⟩
      have := o.2 c hc
      rw [Int.add_comm a b]
      exact ⟨by omega, fun _ => by omega⟩
    · have o := one a b h ha hb p
      have hn := hw p
      refine ⟨o.1, fun c hc _ => ?_⟩
      have := o.2 c hc
      exact ⟨by omega, fun _ => by omega⟩
    · -- both odd
      refine ⟨?_, fun c hc hno => absurd ⟨ha, hb⟩ hno⟩
      obtain ⟨s, m, hs, hm, _, h1, h2⟩ := odd_cut ha
      obtain ⟨t, r, ht, hr, _, h3, h4⟩ := odd_cut hb
      have eA : FW (mw w) a p = mw w p + FW (mw w) (2 * m) (p + 1) := by rw [hm, FW_cut hs]
      have eB : FW (mw w) b p = mw w p + FW (mw w) (2 * r) (p + 1) := by rw [hr, FW_cut ht]
      have i1 := ih (2 * m) (2 * r) (by omega) (p + 1)
      have hmw := le_mw (w := w) p
      have hn := hw (p + 1)
      have hn' := hw p
      rw [eA, eB, FW_even (by omega), show (a + b) / 2 = 2 * m + 2 * r + (s + t) / 2 by omega]
      have hc2 : (s + t) / 2 = 0 ∨ ((s + t) / 2 = 1 ∨ (s + t) / 2 = -1) := by omega
      rcases hc2 with q | q
      · rw [q, Int.add_zero]
        have := i1.1
        omega
      · have := (i1.2 _ q (by omega)).1
        omega
/-- the sum's places are those of the two, or one above -/
theorem add_place (a b : Int) (P : Nat → Prop) (ha : ∀ x ∈ naf a 0, P x.2 ∧ P (x.2 + 1)) (hb : ∀ x ∈ naf b 0, P x.2 ∧ P (x.2 + 1)) : ∀ x ∈ naf (a + b) 0, P x.2 := by
  intro x hx
  have hz : ∀ l : List (Int × Nat), (∀ x ∈ l, P x.2 ∧ P (x.2 + 1)) → (l.map fun x => mw (fun q => @ite Int (P q) (Classical.propDecidable _) 0 1) x.2).sum = 0 := by
    intro l
    induction l with
    | nil => intro _; rfl
    | cons y l ih =>
      intro h
      rw [List.map_cons, List.sum_cons, ih fun z hz => h z (List.mem_cons_of_mem _ hz)]
      obtain ⟨h1, h2⟩ := h y List.mem_cons_self
      show max (@ite Int (P y.2) (Classical.propDecidable _) 0 1) (@ite Int (P (y.2 + 1)) (Classical.propDecidable _) 0 1) + 0 = 0
      rw [if_pos h1, if_pos h2]
      rfl
  have h0 := (addW (w := fun q => @ite Int (P q) (Classical.propDecidable _) 0 1) (fun q => by split <;> decide) _ a b (Nat.le_refl _) 0).1
  unfold FW at h0
  rw [hz _ ha, hz _ hb] at h0
  have hpos : ∀ l : List (Int × Nat), x ∈ l → ¬ P x.2 → 1 ≤ (l.map fun x => @ite Int (P x.2) (Classical.propDecidable _) 0 1).sum := by
    intro l
    induction l with
    | nil => intro h; cases h
    | cons y l ih =>
      intro h hn
      have hnn : 0 ≤ (l.map fun x => @ite Int (P x.2) (Classical.propDecidable _) 0 1).sum := by
        clear ih h
        induction l with
        | nil => exact Int.le_refl _
        | cons z l ih => rw [List.map_cons, List.sum_cons]; split <;> omega
      rw [List.map_cons, List.sum_cons]
      rcases List.mem_cons.mp h with rfl | h
      · rw [if_neg hn]; omega
      · have := ih h hn
        split <;> omega
  refine Classical.byContradiction fun hn => ?_
  have h5 := hpos _ hx hn
  have h6 : ((naf (a + b) 0).map fun x => (fun q => @ite Int (P q) (Classical.propDecidable _) 0 1) x.2).sum = ((naf (a + b) 0).map fun x => @ite Int (P x.2) (Classical.propDecidable _) 0 1).sum := rfl
  rw [h6] at h0
  omega
end
theorem FF_FW (n : Int) (p : Nat) : FF n p = FW SS n p := rfl
theorem SS_nn (q : Nat) : 0 ≤ SS q := Int.natCast_nonneg _
theorem FW_lin (c : Int) (w : Nat → Int) (n : Int) (p : Nat) : FW (fun q => c * w q) n p = c * FW w n p := by
  unfold FW
  induction naf n p with
  | nil => exact (Int.mul_zero c).symm
  | cons x l ih => rw [List.map_cons, List.sum_cons, List.map_cons, List.sum_cons, Int.mul_add, ih]
/-- a number and the next one -/
theorem SS_dbl : ∀ (k q : Nat), q ≤ k → SS (q + 1) ≤ 2 * SS q
  | 0, q, h => by
    have : q = 0 := by omega
    subst this
    rw [SS_tb 0 (by decide), SS_tb 1 (by decide)]; decide
  | k + 1, q, h => by
    have h1 : SS (q + 1) = 1 + FF ((q : Int) + 1) 0 := by rw [← size_FF]; show ((toT ((q + 1 : Nat) : Int)).size : Int) = _; rw [Int.natCast_add]; rfl
    have h2 : SS q = 1 + FF (q : Int) 0 := size_FF (q : Int)
    have h3 := ((addW (w := SS) SS_nn _ (q : Int) 0 (Nat.le_refl _) 0).2 1 (.inl rfl) (by omega)).1
    rw [Int.add_zero, FW_zero] at h3
    have h4 : FW (mw SS) (q : Int) 0 ≤ 2 * FF (q : Int) 0 := by
      rw [FF_FW, ← FW_lin]
      unfold FW
      have : ∀ l : List (Int × Nat), (∀ x ∈ l, x.2 < q) → (l.map fun x => mw SS x.2).sum ≤ (l.map fun x => 2 * SS x.2).sum := by
        intro l
        induction l with
        | nil => intro _; exact Int.le_refl _
        | cons x l ih =>
          intro hl
          rw [List.map_cons, List.sum_cons, List.map_cons, List.sum_cons]
          have i1 := ih fun y hy => hl y (List.mem_cons_of_mem _ hy)
          have i2 := SS_dbl k x.2 (by have := hl x List.mem_cons_self; omega)
          have i3 := SS_nn x.2
          have i4 : mw SS x.2 ≤ 2 * SS x.2 := by unfold mw; omega
          omega
      exact this _ fun x hx => by have := naf_lt hx; simpa using this
    have h5 : SS 0 = 1 := by rw [SS_tb 0 (by decide)]; decide
    rw [h5] at h3
    rw [h1, FF_FW]
    omega
theorem mw_SS (q : Nat) : mw SS q ≤ 2 * SS q := by
  have := SS_dbl q q (Nat.le_refl _)
  have := SS_nn q
  unfold mw
  omega
theorem FF_sum (a b : Int) (p : Nat) : FF (a + b) p ≤ 2 * (FF a p + FF b p) := by
  have h1 := (addW (w := SS) SS_nn _ a b (Nat.le_refl _) p).1
  have h2 := FW_mono (w := mw SS) (w' := fun q => 2 * SS q) mw_SS a p
  have h3 := FW_mono (w := mw SS) (w' := fun q => 2 * SS q) mw_SS b p
  rw [FW_lin] at h2 h3
  rw [FF_FW, FF_FW, FF_FW]
  omega
theorem size_sum (a b : Int) : (toT (a + b)).size + 3 ≤ 2 * ((toT a).size + (toT b).size) := by
  have h1 := FF_sum a b 0
  have h2 := size_FF a
  have h3 := size_FF b
  have h4 := size_FF (a + b)
  omega
end Sk
set_option Elab.async false
set_option linter.all false
set_option maxRecDepth 100000
set_option maxHeartbeats 1000000
namespace Sk
theorem FF_pm {s : Int} (h : s = 1 ∨ s = -1) (p : Nat) : FF s p = SS p := by
  rcases h with rfl | rfl
  · rw [FF_odd (by decide), show ((1 : Int) - (2 - 1 % 4)) / 2 = 0 by decide, FF_zero, Int.add_zero]
  · rw [FF_odd (by decide), show ((-1 : Int) - (2 - -1 % 4)) / 2 = 0 by decide, FF_zero, Int.add_zero]
theorem FF_shift (m : Int) (k p : Nat) : FF (2 ^ k * m) p = FF m (p + k) := by unfold FF; rw [naf_shift]
theorem FF_dbl (m : Int) (p : Nat) : FF (2 * m) p = FF m (p + 1) := by rw [FF_even (by omega), show 2 * m / 2 = m by omega]
theorem FF_low {s : Int} (h : s = 1 ∨ s = -1) (k : Int) (p : Nat) : FF (s + 4 * k) p = SS p + FF k (p + 2) := by
  have e : FF (2 * k) (p + 1) = FF k (p + 2) := FF_dbl k (p + 1)
  rcases h with rfl | rfl
  · rw [FF_odd (by omega), show (1 + 4 * k - (2 - (1 + 4 * k) % 4)) / 2 = 2 * k by omega, e]
  · rw [FF_odd (by omega), show (-1 + 4 * k - (2 - (-1 + 4 * k) % 4)) / 2 = 2 * k by omega, e]
theorem FF_three {s : Int} (h : s = 1 ∨ s = -1) (p : Nat) : FF (3 * s) p = SS p + SS (p + 2) := by
  have := FF_low (s := -s) (by omega) s p
  rw [show -s + 4 * s = 3 * s by omega, FF_pm h] at this
  exact this
theorem FF_spow {s : Int} (h : s = 1 ∨ s = -1) (k p : Nat) : FF (s * 2 ^ k) p = SS (p + k) := by rw [Int.mul_comm, FF_shift, FF_pm h]
theorem FF_two {s s' : Int} (h : s = 1 ∨ s = -1) (h' : s' = 1 ∨ s' = -1) (d p : Nat) (hw : wt ((p + d : Nat) : Int) ≤ 4) : FF (s + s' * 2 ^ d) p ≤ SS p + SS (p + d) + 4 := by
  have g := SS_succ hw
  have p0 := SS_pos p
  have p1 := SS_pos (p + d)
  match d with
  | 0 =>
    rw [Int.pow_zero, Int.mul_one]
    by_cases e : s' = s
    · rw [e, show s + s = 2 * s by omega, FF_dbl, FF_pm h]
      rw [Nat.add_zero] at g
      omega
    · rw [show s + s' = 0 by omega, FF_zero]
      omega
  | 1 =>
    rw [show (2 : Int) ^ 1 = 2 by decide]
    by_cases e : s' = s
    · rw [e, show s + s * 2 = 3 * s by omega, FF_three h]
      rw [show p + 2 = p + 1 + 1 by omega]
      omega
    · rw [show s + s' * 2 = s' by omega, FF_pm h']
      omega
  | d + 2 =>
    have e : s + s' * 2 ^ (d + 2) = s + 4 * (s' * 2 ^ d) := by
      rw [Int.pow_succ, Int.pow_succ, Int.mul_assoc (2 ^ d) 2 2, show (2 : Int) * 2 = 4 by decide, ← Int.mul_assoc, Int.mul_comm _ 4]
    rw [e, FF_low h, FF_spow h', show p + 2 + d = p + (d + 2) by omega]
    omega
theorem FF_tri {s t u : Int} (hs : s = 1 ∨ s = -1) (ht : t = 1 ∨ t = -1) (hu : u = 1 ∨ u = -1) (c d e : Nat) (wc : wt (c : Int) ≤ 3) (wb : wt ((c + d : Nat) : Int) ≤ 3) (wa : wt ((c + d + e : Nat) : Int) ≤ 3) :
    FF (s + t * 2 ^ d + u * 2 ^ (d + e)) c ≤ SS c + SS (c + d) + SS (c + d + e) + 8 := by
  have gc := SS_succ (e := c) (by omega)
  have gb := SS_succ (e := c + d) (by omega)
  have ga := SS_succ (e := c + d + e) (by omega)
  have pc := SS_pos c
  have pb := SS_pos (c + d)
  have pa := SS_pos (c + d + e)
  match d with
  | 0 =>
    rw [Int.pow_zero, Int.mul_one, Nat.zero_add]
    simp only [Nat.add_zero] at *
    by_cases q : t = s
    · rw [q, show s + s = 2 * s by omega]
      cases e with
      | zero =>
        rw [Int.pow_zero, Int.mul_one]
        simp only [Nat.add_zero] at *
        by_cases q2 : u = s
        · rw [q2, show 2 * s + s = 3 * s by omega, FF_three hs]
          have := SS_succ (e := c + 1) (by have := wt_succ (c : Int); rw [show ((c + 1 : Nat) : Int) = (c : Int) + 1 by omega]; omega)
          rw [show c + 1 + 1 = c + 2 by omega] at this
          omega
        · rw [show 2 * s + u = s by omega, FF_pm hs]
          omega
      | succ e =>
        have e1 : 2 * s + u * 2 ^ (e + 1) = 2 * (s + u * 2 ^ e) := by rw [Int.pow_succ, ← Int.mul_assoc]; omega
        rw [e1, FF_dbl]
        have := FF_two hs hu e (c + 1) (by rw [show c + 1 + e = c + (e + 1) by omega]; omega)
        rw [show c + 1 + e = c + (e + 1) by omega] at this
        omega
    · rw [show s + t = 0 by omega, Int.zero_add, FF_spow hu]
      omega
  | 1 =>
    rw [show (2 : Int) ^ 1 = 2 by decide]
    by_cases q : t = s
    · subst q
      cases e with
      | zero =>
        rw [show (2 : Int) ^ (1 + 0) = 2 by decide]
        simp only [Nat.add_zero] at *
        by_cases q2 : u = t
        · rw [q2, show t + t * 2 + t * 2 = t + 4 * t by omega, FF_low hs, FF_pm hs]
          rw [show c + 2 = c + 1 + 1 by omega]
          omega
        · rw [show t + t * 2 + u * 2 = t by omega, FF_pm hs]
          omega
      | succ e =>
        have e1 : t + t * 2 + u * 2 ^ (1 + (e + 1)) = -t + 4 * (t + u * 2 ^ e) := by
          rw [show 1 + (e + 1) = e + 1 + 1 by omega, Int.pow_succ, Int.pow_succ, Int.mul_assoc (2 ^ e) 2 2, show (2 : Int) * 2 = 4 by decide, ← Int.mul_assoc]
          omega
        rw [e1, FF_low (by omega)]
        have := FF_two hs hu e (c + 2) (by rw [show c + 2 + e = c + 1 + (e + 1) by omega]; omega)
        rw [show c + 2 + e = c + 1 + (e + 1) by omega] at this
        rw [show c + 2 = c + 1 + 1 by omega] at this ⊢
        omega
    · rw [show s + t * 2 = t by omega]
      have := FF_two ht hu (1 + e) c (by rw [show c + (1 + e) = c + 1 + e by omega]; omega)
      rw [show c + (1 + e) = c + 1 + e by omega] at this
      omega
  | d + 2 =>
    have e1 : s + t * 2 ^ (d + 2) + u * 2 ^ (d + 2 + e) = s + 4 * (2 ^ d * (t + u * 2 ^ e)) := by
      rw [show d + 2 + e = e + (d + 2) by omega, Int.pow_add 2 e (d + 2), Int.pow_succ, Int.pow_succ, Int.mul_assoc (2 ^ d) 2 2, show (2 : Int) * 2 = 4 by decide, Int.mul_add]
      have e2 : u * (2 ^ e * (2 ^ d * 4)) = 4 * (2 ^ d * (u * 2 ^ e)) := by
        rw [← Int.mul_assoc u, ← Int.mul_assoc (u * 2 ^ e), Int.mul_comm (u * 2 ^ e) (2 ^ d), Int.mul_comm _ 4]
      have e3 : t * (2 ^ d * 4) = 4 * (2 ^ d * t) := by rw [← Int.mul_assoc, Int.mul_comm t, Int.mul_comm _ 4]
      rw [e2, e3]
      omega
    rw [e1, FF_low hs, FF_shift]
    have := FF_two ht hu e (c + 2 + d) (by rw [show c + 2 + d + e = c + (d + 2) + e by omega]; omega)
    rw [show c + 2 + d = c + (d + 2) by omega] at this ⊢
    omega
theorem pw_split {c a : Nat} (h : c ≤ a) (s : Int) : s * 2 ^ a = 2 ^ c * (s * 2 ^ (a - c)) := by
  have : a = c + (a - c) := by omega
  have e : (2 : Int) ^ a = 2 ^ c * 2 ^ (a - c) := by rw [← Int.pow_add, ← this]
  rw [e, ← Int.mul_assoc, Int.mul_comm s, Int.mul_assoc]
/-- a sum of two, of three powers, in any order -/
theorem FF_sum2 {s t : Int} (hs : s = 1 ∨ s = -1) (ht : t = 1 ∨ t = -1) (a b : Nat) (wa : wt (a : Int) ≤ 3) (wb : wt (b : Int) ≤ 3) : FF (s * 2 ^ a + t * 2 ^ b) 0 ≤ SS a + SS b + 4 := by
  have key : ∀ {s t : Int} (hs : s = 1 ∨ s = -1) (ht : t = 1 ∨ t = -1) (a b : Nat), wt (a : Int) ≤ 3 → wt (b : Int) ≤ 3 → a ≤ b → FF (s * 2 ^ a + t * 2 ^ b) 0 ≤ SS a + SS b + 4 := by
    intro s t hs ht a b wa wb h
    have e : s * 2 ^ a + t * 2 ^ b = 2 ^ a * (s + t * 2 ^ (b - a)) := by rw [pw_split h, Int.mul_add, Int.mul_comm s]
    rw [e, FF_shift, Nat.zero_add]
    have := FF_two hs ht (b - a) a (by rw [show a + (b - a) = b by omega]; omega)
    rw [show a + (b - a) = b by omega] at this
    exact this
  rcases Nat.le_total a b with h | h
  · exact key hs ht a b wa wb h
  · have := key ht hs b a wb wa h
    rw [Int.add_comm]
    omega
theorem FF_sum3 {s t u : Int} (hs : s = 1 ∨ s = -1) (ht : t = 1 ∨ t = -1) (hu : u = 1 ∨ u = -1) (a b c : Nat) (wa : wt (a : Int) ≤ 3) (wb : wt (b : Int) ≤ 3) (wc : wt (c : Int) ≤ 3) : FF (s * 2 ^ a + t * 2 ^ b + u * 2 ^ c) 0 ≤ SS a + SS b + SS c + 8 := by
  have key : ∀ {s t u : Int} (hs : s = 1 ∨ s = -1) (ht : t = 1 ∨ t = -1) (hu : u = 1 ∨ u = -1) (a b c : Nat), wt (a : Int) ≤ 3 → wt (b : Int) ≤ 3 → wt (c : Int) ≤ 3 → a ≤ b → b ≤ c → FF (s * 2 ^ a + t * 2 ^ b + u * 2 ^ c) 0 ≤ SS a + SS b + SS c + 8 := by
    intro s t u hs ht hu a b c wa wb wc h1 h2
    have e : s * 2 ^ a + t * 2 ^ b + u * 2 ^ c = 2 ^ a * (s + t * 2 ^ (b - a) + u * 2 ^ ((b - a) + (c - b))) := by
      rw [pw_split h1, pw_split (Nat.le_trans h1 h2), Int.mul_add, Int.mul_add, Int.mul_comm s, show c - a = b - a + (c - b) by omega]
    rw [e, FF_shift, Nat.zero_add]
    have := FF_tri hs ht hu a (b - a) (c - b) wa (by rw [show a + (b - a) = b by omega]; exact wb) (by rw [show a + (b - a) + (c - b) = c by omega]; exact wc)
    rw [show a + (b - a) + (c - b) = c by omega, show a + (b - a) = b by omega] at this
    exact this
  rcases Nat.le_total a b with h | h <;> rcases Nat.le_total b c with h2 | h2
  · exact key hs ht hu a b c wa wb wc h h2
  · rcases Nat.le_total a c with h3 | h3
    · have := key hs hu ht a c b wa wc wb h3 h2
      rw [show s * 2 ^ a + t * 2 ^ b + u * 2 ^ c = s * 2 ^ a + u * 2 ^ c + t * 2 ^ b by omega]
      omega
    · have := key hu hs ht c a b wc wa wb h3 h
      rw [show s * 2 ^ a + t * 2 ^ b + u * 2 ^ c = u * 2 ^ c + s * 2 ^ a + t * 2 ^ b by omega]
      omega
  · rcases Nat.le_total a c with h3 | h3
    · have := key ht hs hu b a c wb wa wc h h3
      rw [show s * 2 ^ a + t * 2 ^ b + u * 2 ^ c = t * 2 ^ b + s * 2 ^ a + u * 2 ^ c by omega]
      omega
    · have := key ht hu hs b c a wb wc wa h2 h3
      rw [show s * 2 ^ a + t * 2 ^ b + u * 2 ^ c = t * 2 ^ b + u * 2 ^ c + s * 2 ^ a by omega]
      omega
  · have := key hu ht hs c b a wc wb wa h2 h
    rw [show s * 2 ^ a + t * 2 ^ b + u * 2 ^ c = u * 2 ^ c + t * 2 ^ b + s * 2 ^ a by omega]
    omega
end Sk
set_option Elab.async false
set_option linter.all false
set_option maxRecDepth 100000
set_option maxHeartbeats 1000000
namespace Sk
theorem naf_neg : ∀ (k : Nat) (n : Int) (p : Nat), n.natAbs ≤ k → naf (-n) p = (naf n p).map fun x => (-x.1, x.2)
  | 0, n, p, h => by
    have : n = 0 := by omega
    subst this
    rw [show -(0 : Int) = 0 from rfl, naf_zero]; rfl
  | k + 1, n, p, h => by
    by_cases h0 : n = 0
    · subst h0; rw [show -(0 : Int) = 0 from rfl, naf_zero]; rfl
    rcases Int.emod_two_eq n with e | e
    · rw [naf_even (n := -n) (by omega), naf_even e, show -n / 2 = -(n / 2) by omega, naf_neg k _ _ (by omega)]
    · rw [naf_odd (n := -n) (by omega), naf_odd e, List.map_cons]
      congr 1
      · show (_, _) = (_, _)
        congr 1
        omega
      · by_cases hz : (n - (2 - n % 4)) / 2 = 0
        · rw [hz, show (-n - (2 - -n % 4)) / 2 = 0 by omega, naf_zero]; rfl
        · rw [show (-n - (2 - -n % 4)) / 2 = -((n - (2 - n % 4)) / 2) by omega, naf_neg k _ _ (by omega)]
theorem FF_neg (n : Int) (p : Nat) : FF (-n) p = FF n p := by
  unfold FF
  rw [naf_neg _ n p (Nat.le_refl _), List.map_map]
  rfl
theorem wt_negI (n : Int) : wt (-n) = wt n := by
  unfold wt
  rw [naf_neg _ n 0 (Nat.le_refl _), List.length_map]
theorem abs_cases (n : Int) : (n.natAbs : Int) = n ∨ (n.natAbs : Int) = -n := by omega
theorem FF_abs (n : Int) (p : Nat) : FF (n.natAbs : Int) p = FF n p := by
  rcases abs_cases n with h | h
  · rw [h]
  · rw [h, FF_neg]
theorem wt_abs (n : Int) : wt (n.natAbs : Int) = wt n := by
  rcases abs_cases n with h | h
  · rw [h]
  · rw [h, wt_negI]
theorem SS_abs (n : Int) : SS n.natAbs = 1 + FF n 0 := by rw [← FF_abs]; exact size_FF _
def Pm (s : Int) : Prop := s = 1 ∨ s = -1
/-- a sum of up to three powers, the first exponent of P, the others of R -/
def Pows (P R : Int → Prop) (n : Int) : Prop := ∃ s a, Pm s ∧ P a ∧ (n = s * 2 ^ a.natAbs ∨ ∃ t b, Pm t ∧ R b ∧ (n = s * 2 ^ a.natAbs + t * 2 ^ b.natAbs ∨ ∃ u c, Pm u ∧ R c ∧ n = s * 2 ^ a.natAbs + t * 2 ^ b.natAbs + u * 2 ^ c.natAbs))
theorem Pows.wt {P R : Int → Prop} {n : Int} (h : Pows P R n) : wt n ≤ 3 := by
  obtain ⟨s, a, hs, _, h⟩ := h
  have h1 : Sk.wt (s * 2 ^ a.natAbs) ≤ 1 := by
    have := wt_pow a.natAbs 0 s hs
    rw [wt_zero, Int.zero_add] at this
    exact this
  rcases h with rfl | ⟨t, b, ht, _, h⟩
  · omega
  have h2 := wt_pow b.natAbs (s * 2 ^ a.natAbs) t ht
  rcases h with rfl | ⟨u, c, hu, _, rfl⟩
  · omega
  have h3 := wt_pow c.natAbs (s * 2 ^ a.natAbs + t * 2 ^ b.natAbs) u hu
  omega
theorem natAbs_spow {s : Int} (h : Pm s) (x : Nat) : (s * 2 ^ x).natAbs = 2 ^ x := by
  rw [Int.natAbs_mul, Int.natAbs_pow]
  rcases h with rfl | rfl <;> simp
theorem Pows.abs {P R : Int → Prop} {n : Int} {m : Nat} (h : Pows P R n) (hP : ∀ a, P a → a.natAbs ≤ m) (hR : ∀ a, R a → a.natAbs ≤ m) : n.natAbs ≤ 3 * 2 ^ m := by
  obtain ⟨s, a, hs, ha, h⟩ := h
  have h1 := natAbs_spow hs a.natAbs
  have g1 : 2 ^ a.natAbs ≤ 2 ^ m := Nat.pow_le_pow_right (by decide) (hP a ha)
  rcases h with rfl | ⟨t, b, ht, hb, h⟩
  · omega
  have h2 := natAbs_spow ht b.natAbs
  have g2 : 2 ^ b.natAbs ≤ 2 ^ m := Nat.pow_le_pow_right (by decide) (hR b hb)
  rcases h with rfl | ⟨u, c, hu, hc, rfl⟩
  · have := Int.natAbs_add_le (s * 2 ^ a.natAbs) (t * 2 ^ b.natAbs)
    omega
  have h3 := natAbs_spow hu c.natAbs
  have g3 : 2 ^ c.natAbs ≤ 2 ^ m := Nat.pow_le_pow_right (by decide) (hR c hc)
  have := Int.natAbs_add_le (s * 2 ^ a.natAbs) (t * 2 ^ b.natAbs)
  have := Int.natAbs_add_le (s * 2 ^ a.natAbs + t * 2 ^ b.natAbs) (u * 2 ^ c.natAbs)
  omega
/-- sums of exponents of bounded size -/
theorem Pows.size {P R : Int → Prop} {n A B : Int} (h : Pows P R n) (hP : ∀ a, P a → SS a.natAbs ≤ A ∧ Sk.wt a ≤ 3) (hR : ∀ a, R a → SS a.natAbs ≤ B ∧ Sk.wt a ≤ 3) (hB : 0 ≤ B) : SS n.natAbs ≤ A + 2 * B + 9 := by
  rw [SS_abs]
  obtain ⟨s, a, hs, ha, h⟩ := h
  obtain ⟨a1, a2⟩ := hP a ha
  rw [← wt_abs] at a2
  rcases h with rfl | ⟨t, b, ht, hb, h⟩
  · rw [FF_spow hs, Nat.zero_add]; omega
  obtain ⟨b1, b2⟩ := hR b hb
  rw [← wt_abs] at b2
  rcases h with rfl | ⟨u, c, hu, hc, rfl⟩
  · have := FF_sum2 hs ht a.natAbs b.natAbs a2 b2; omega
  obtain ⟨c1, c2⟩ := hR c hc
  rw [← wt_abs] at c2
  have := FF_sum3 hs ht hu a.natAbs b.natAbs c.natAbs a2 b2 c2
  omega
end Sk
set_option Elab.async false
set_option linter.all false
set_option maxRecDepth 100000
set_option maxHeartbeats 2000000
namespace Sk
open PySem L2 Evl
section
variable {K : PySem.W.Frag} {CN CL : Addr}
/-- of_int of a small one does not raise -/
theorem pOfInt_ok {n : Int} {H : Hp} (hn : n.natAbs < 2 ^ 2900) (hs : (toT n).fits) : pOfInt K CN CL (.int n) H (fun v H' => NumV K H' v (toT n)) fun _ => False :=
  ⟨n, rfl, fun _ => ⟨szk_of (Nat.lt_of_le_of_lt hs.1 (by decide)), fun _ v H' h => h, fun h => absurd hs h⟩, fun h => absurd hn h⟩
theorem fits_small {n : Nat} (h : n < 7000) : (toT (n : Int)).fits := by
  refine ⟨?_, ?_⟩
  · rw [size_toT]
    have hb : ((n : Int)).natAbs ≤ 2 ^ 13 := by simp; omega
    have := sum_all ((naf (n : Int) 0).map (·.2)) (fun p => (toT ((p : Nat) : Int)).size) 9 fun p hp => by
      obtain ⟨x, hx, rfl⟩ := List.mem_map.mp hp
      exact sz14 _ (Nat.lt_succ_of_le (naf_le hb hx))
    rw [List.length_map] at this
    have h2 := naf_len 13 (n : Int) 0 hb
    omega
  · exact Nat.le_trans (height_toT 5 _ (Nat.lt_of_lt_of_le (by simp; omega : ((n : Int)).natAbs < 16385) Cb_ge5)) (by decide)
end
end Sk
set_option Elab.async false
set_option linter.all false
set_option maxRecDepth 100000
set_option maxHeartbeats 1000000
namespace Sk
open PySem L2 Evl
section
variable {K : PySem.W.Frag} {CN CL : Addr} {σ : L2.St} {H : Hp} {te tf : TE} {t : T} {n m : Int}
theorem er_ofint (h : Ev te σ H (.int n)) (hn : n.natAbs < 2 ^ 2900) (hs : (toT n).fits) : ER (tCall (sp_of_int K CN CL) [] E0 (tCons te tNil)) σ H (fun v H' => NumV K H' v (toT n)) :=
  er_call (ea_one (R := fun v _ => v = .int n) (er_is h) monoC) fun vs H1 e1 ⟨v, hv, hv2⟩ => by
    subst hv hv2
    exact srx1 (pOfInt_ok hn hs)
end
section
variable {K : PySem.W.Frag}
theorem negT_toT (n : Int) : negT (toT n) = toT (-n) := by
  have h := can_eq (negT_can (toT_can n))
  rw [negT_val, toT_val] at h
  exact h
end
end Sk
set_option Elab.async false
set_option linter.all false
set_option maxRecDepth 100000
set_option maxHeartbeats 1000000
namespace Sk
open PySem L2 Evl
theorem size_sm {p : Nat} (h : p ≤ 2 ^ 13) : (toT (p : Int)).size ≤ 127 := by
  rw [size_toT]
  have h1 := naf_len 13 (p : Int) 0 (by simpa using h)
  have h2 := sum_all ((naf (p : Int) 0).map (·.2)) (fun q : Nat => (toT (q : Int)).size) 9 fun q hq => by
    obtain ⟨x, hx, rfl⟩ := List.mem_map.mp hq
    exact sz14 x.2 (Nat.lt_succ_of_le (naf_le (m := 13) (by simpa using h) hx))
  rw [List.length_map] at h2
  omega
def Big (n : Int) : Prop := n.natAbs ≤ 2 ^ 512
theorem big_cb {n : Int} (h : Big n) : n.natAbs < Cb 7 := lt_Cb7 (k := 513) (Nat.lt_of_le_of_lt h (Nat.pow_lt_pow_right (by decide) (by decide))) (by decide)
theorem big_len {n : Int} (h : Big n) : (toT n).toL.length ≤ 513 := toT_len (k := 512) h
theorem big_mem {n : Int} (h : Big n) {x : Int × T} (hx : x ∈ (toT n).toL) : ∃ q : Nat, q ≤ 512 ∧ x.2 = toT (q : Int) ∧ (x.1 = 1 ∨ x.1 = -1) := by
  rw [toL_toT] at hx
  obtain ⟨y, hy, rfl⟩ := List.mem_map.mp hx
  exact ⟨y.2, naf_le h (List.mem_reverse.mp hy), rfl, naf_sign (List.mem_reverse.mp hy)⟩
theorem big_of {q : Nat} (h : q ≤ 512) : Big (q : Int) := by
  unfold Big
  refine Nat.le_trans ?_ (Nat.le_of_lt (Nat.lt_two_pow_self (n := 512)))
  omega
theorem big_size {n : Int} (h : Big n) : (toT n).size < 70000 := by
  rw [size_toT]
  have h1 := naf_len 512 n 0 h
  have h2 := sum_all ((naf n 0).map (·.2)) (fun q : Nat => (toT (q : Int)).size) 127 fun q hq => by
    obtain ⟨x, hx, rfl⟩ := List.mem_map.mp hq
    exact size_sm (Nat.le_trans (naf_le h hx) (by decide))
  rw [List.length_map] at h2
  omega
theorem big_ok {n : Int} (h : Big n) : PlOk (toT n) :=
  ⟨toT_can n, Nat.le_trans (height_toT 6 n (big_cb h)) (by decide), sz_ex (Nat.lt_trans (big_size h) (by decide)), Nat.le_trans (big_len h) (by decide), fun x hx => by
    obtain ⟨q, hq, e, _⟩ := big_mem h hx
    rw [e]
    have := big_len (big_of hq)
    omega⟩
/-- 2^a x, its places moved by p -/
theorem shL_int (x : Int) (a : Nat) (p : Int) (h : 0 ≤ (a : Int) + p) : ofL (shL p (toT (2 ^ a * x)).toL) = toT (2 ^ ((a : Int) + p).toNat * x) := by
  rw [toT_eq (2 ^ ((a : Int) + p).toNat * x), toL_toT, naf_shift, naf_shift]
  have key : ∀ (n : Int) (k : Nat), n.natAbs ≤ k → ∀ (i : Nat) , (naf n (i + a)).map (fun x => (x.1, toT ((x.2 : Int) + p))) = (naf n (i + ((a : Int) + p).toNat)).map fun x => (x.1, toT (x.2 : Int)) := by
    intro n k
    induction k generalizing n with
    | zero =>
      intro hn i
      have : n = 0 := by omega
      subst this
      rw [naf_zero, naf_zero] <;> rfl
    | succ k ih =>
      intro hn i
      by_cases h0 : n = 0
      · subst h0; rw [naf_zero, naf_zero] <;> rfl
      rcases Int.emod_two_eq n with e | e
      · rw [naf_even e, naf_even e]
        have := ih (n / 2) (by omega) (i + 1)
        rw [show i + 1 + a = i + a + 1 by omega, show i + 1 + ((a : Int) + p).toNat = i + ((a : Int) + p).toNat + 1 by omega] at this
        exact this
      · rw [naf_odd e, naf_odd e, List.map_cons, List.map_cons]
        congr 1
        · show (2 - n % 4, toT (((i + a : Nat) : Int) + p)) = (2 - n % 4, toT ((i + ((a : Int) + p).toNat : Nat) : Int))
          congr 2
          omega
        · by_cases hz : (n - (2 - n % 4)) / 2 = 0
          · rw [hz, naf_zero, naf_zero] <;> rfl
          have := ih ((n - (2 - n % 4)) / 2) (by omega) (i + 1)
          rw [show i + 1 + a = i + a + 1 by omega, show i + 1 + ((a : Int) + p).toNat = i + ((a : Int) + p).toNat + 1 by omega] at this
          exact this
  have hk := key x _ (Nat.le_refl _) 0
  have e : shL p ((naf x (0 + a)).reverse.map fun x : Int × Nat => (x.1, toT (x.2 : Int))) = ((naf x (0 + a)).map fun x => (x.1, toT ((x.2 : Int) + p))).reverse := by
    unfold shL
    rw [List.map_map, ← List.map_reverse]
    refine List.map_congr_left fun y _ => ?_
    show (y.1, toT ((toT (y.2 : Int)).val + p)) = _
    rw [toT_val]
  rw [e, hk, List.map_reverse]
/-- the odd part and the power of two in it -/
theorem odd_part5 : ∀ (k : Nat) (n : Int), n.natAbs ≤ k → n ≠ 0 → ∃ (a : Nat) (m : Int), n = 2 ^ a * m ∧ m % 2 = 1 ∧ a ≤ k
  | 0, n, h, h0 => by omega
  | k + 1, n, h, h0 => by
    rcases Int.emod_two_eq n with e | e
    · obtain ⟨a, m, h1, h2, h3⟩ := odd_part5 k (n / 2) (by omega) (by omega)
      refine ⟨a + 1, m, ?_, h2, by omega⟩
      rw [Int.pow_succ, Int.mul_comm (2 ^ a) 2, Int.mul_assoc, ← h1]
      omega
    · exact ⟨0, n, by simp, e, by omega⟩
theorem odd_uniq {a b : Nat} {m n : Int} (h : (2 : Int) ^ a * m = 2 ^ b * n) (hm : m % 2 = 1) (hn : n % 2 = 1) : a = b ∧ m = n := by
  have key : ∀ (a b : Nat) (m n : Int), a ≤ b → (2 : Int) ^ a * m = 2 ^ b * n → m % 2 = 1 → a = b ∧ m = n := by
    intro a b m n hab h hm
    obtain ⟨c, rfl⟩ : ∃ c, b = a + c := ⟨b - a, by omega⟩
    rw [Int.pow_add, Int.mul_assoc] at h
    have h2 : m = 2 ^ c * n := Int.eq_of_mul_eq_mul_left (Int.ne_of_gt (Int.pow_pos (by decide))) h
    cases c with
    | zero => exact ⟨rfl, by rw [h2, Int.pow_zero, Int.one_mul]⟩
    | succ c =>
      rw [Int.pow_succ, Int.mul_comm (2 ^ c) 2, Int.mul_assoc] at h2
      omega
  rcases Nat.le_total a b with hab | hab
  · exact key a b m n hab h hm
  · obtain ⟨h1, h2⟩ := key b a n m hab h.symm hn
    exact ⟨h1.symm, h2.symm⟩
/-- the last term of a number -/
theorem last_term {a : Nat} {m : Int} (hm : m % 2 = 1) : (toT (2 ^ a * m)).toL[(toT (2 ^ a * m)).toL.length - 1]? = some (2 - m % 4, toT (a : Int)) := by
  rw [toL_toT, naf_shift, naf_odd hm]
  rw [List.reverse_cons, List.map_append, List.map_singleton]
  rw [List.length_append, List.length_singleton, Nat.add_sub_cancel, List.getElem?_append_right (Nat.le_refl _), Nat.sub_self]
  rw [Nat.zero_add]
  rfl
end Sk
set_option Elab.async false
set_option linter.all false
set_option maxRecDepth 100000
set_option maxHeartbeats 2000000
set_option Elab.async false
set_option linter.all false
set_option maxRecDepth 100000
set_option maxHeartbeats 1000000
namespace Sk
open PySem PySem.Spec PyProof.Rows L2
section
variable {prog : Program} {w : World} {A : Around} {E : Value → Shared → Prop} {s : Shared}
theorem hot_ne {x1 it : Addr} {o : Obj} {vs : Array Value} (hot : HotX.HotAt A x1 s.heap) (ho : s.heap.get? it = some o) (hd : o.data = .fields vs) (hv : vs[2]? = none) : x1 ≠ it := by
  intro z
  obtain ⟨_, o1, v1, h1, d1, c1⟩ := hot
  rw [z, ho] at h1
  cases h1
  rw [hd] at d1
  cases d1
  rw [hv] at c1
  cases c1
theorem hot_keep {x1 it : Addr} {h : Heap} {f : Obj → Obj} (hot : HotX.HotAt A x1 h) (hne : x1 ≠ it) : HotX.HotAt A x1 (h.update it f) := by
  obtain ⟨hh, o1, v1, h1, d1, c1⟩ := hot
  exact ⟨hh, o1, v1, by rw [Heap.get?_update_other _ _ hne.symm]; exact h1, d1, c1⟩
theorem stop_hot {x1 : Addr} {Qv : PySem.Fin → Shared → Prop} {Q : Option Value → Shared → Prop} (hot : HotX.HotAt A x1 s.heap) (hQ : ∀ g, (∀ b u, s.heap.get? b = some u → g.get? b = some u) → Q none { s with heap := g }) :
    wpAny (model prog w) (Around.in1 A) Builtin.SmallTypes.stopIteration Qv (fun e s' => wpAny (model prog w) A (do let b ← isInstance e (Value.type "StopIteration"); if b = true then pure none else throw e) Q E s') s := by
  obtain ⟨hh, o1, v1, h1, d1, c1⟩ := hot
  have keep2 : ∀ (o2 o3 : Obj) (b : Addr) (u : Obj), s.heap.get? b = some u → ((s.heap.push o2).push o3).get? b = some u := fun o2 o3 b u e => Heap.get?_push_of_some _ (Heap.get?_push_of_some _ e)
  unfold Builtin.SmallTypes.stopIteration
  refine wpAny_bind ?_
  simp only [newExc, newTuple]
  refine wpAny_bind (wpAny_newObj_type ?_ (by size_fits))
  refine wpAny_bind (m := firstArgMember _ _) (wpAny_of_eq (a := Value.none) (by first | rfl | (simp only [firstArgMember]; rfl)) ?_)
  refine wpAny_newObj_type ?_ (by size_fits)
  refine HotX.raiseNew_hot (x1 := x1) ⟨hh, o1, v1, keep2 _ _ _ _ h1, d1, c1⟩ (Nat.ne_of_lt (Heap.lt_size (Heap.get?_push_of_some _ h1))) (Heap.get?_push_size _ rfl) rfl (by first | (simp; done) | (simp; omega)) ?_
  refine wpAny_bind (wpAny_isInstance (b := true) (T := "StopIteration") ⟨_, Heap.get?_update_self _ (Heap.get?_push_size _ rfl) rfl, rfl⟩ isSubtype_stop (wpAny_pure (hQ _ fun b u e => ?_)))
  rw [Heap.get?_update_other _ _ (Nat.ne_of_gt (Heap.lt_size (Heap.get?_push_of_some _ e)))]
  exact keep2 _ _ b u e
theorem tupEnd_hot {it tp x1 : Addr} {j : Nat} {ws : Array Value} {Q : Option Value → Shared → Prop} (hot : HotX.HotAt A x1 s.heap) (hit : s.heap.IsTupleIter it tp j) (htp : s.heap.IsTuple tp ws) (hw : ws[j]? = none)
    (hQ : ∀ g, (∀ b u, b ≠ it → s.heap.get? b = some u → g.get? b = some u) → Q none { s with heap := g }) : wpAny (model prog w) A (pyNext (.ref it)) Q E s := by
  have hT := hit.typeIs
  obtain ⟨oi, hoi, _, hdi⟩ := hit
  obtain ⟨ot, hot2, _, nt, hdt⟩ := htp
  have hne : x1 ≠ it := hot_ne hot hoi hdi rfl
  unfold pyNext
  refine wpAny_bind (wpAny_attempt (wpAny_callSpecial?_slot (name := Str.ofString "__next__") hT F.slot_tuple_iterator_next (wpAny_call_entry F.slot_tuple_iterator_next hT F.entry_tuple_iterator_next ?_ (F.args_tuple_iterator_next_1 _))))
  show wpAny _ (Around.in1 A) (field (Value.ref it) 0 >>= _) _ _ s
  refine wpAny_bind (wpAny_field hoi hdi (x := .ref tp) rfl ?_)
  show wpAny _ (Around.in1 A) (if (Value.ref tp == Value.none) = true then _ else _) _ _ s
  have no : ¬ (Value.ref tp == Value.none) = true := fun z => Bool.noConfusion (show false = true from z)
  rw [if_neg no]
  show wpAny _ (Around.in1 A) (field (Value.ref it) 1 >>= _) _ _ s
  refine wpAny_bind (wpAny_field hoi hdi (x := .int j 0) rfl ?_)
  show wpAny _ (Around.in1 A) (seqItems? (Value.ref tp) >>= _) _ _ s
  refine wpAny_bind (wpAny_seqItems hot2 hdt ?_)
  simp only [Int.toNat_natCast, hw]
  refine wpAny_bind (wpAny_rule (wpAny_bind (wpAny_setField hoi hdi (by simp) ?_)))
  refine stop_hot (hot_keep hot hne) fun g hg => hQ g fun b u hb e => hg b u ?_
  show (s.heap.update it _).get? b = some u
  rw [Heap.get?_update_other _ _ (Ne.symm hb)]
  exact e
end
end Sk
set_option Elab.async false
set_option linter.all false
set_option maxRecDepth 100000
set_option maxHeartbeats 1000000
namespace Sk
open PySem PySem.Spec PyProof.Rows L2
section
variable {prog : Program} {w : World} {A : Around} {E : Value → Shared → Prop} {s : Shared}
theorem lstEnd_hot {it lp x1 : Addr} {j : Nat} {ws : Array Value} {Q : Option Value → Shared → Prop} (hot : HotX.HotAt A x1 s.heap) (hit : s.heap.IsListIter it lp j) (hlp : s.heap.IsList lp ws) (hw : ws[j]? = none)
    (hQ : ∀ g, (∀ b u, b ≠ it → s.heap.get? b = some u → g.get? b = some u) → Q none { s with heap := g }) : wpAny (model prog w) A (pyNext (.ref it)) Q E s := by
  have hT := hit.typeIs
  obtain ⟨oi, hoi, _, hdi⟩ := hit
  obtain ⟨ot, hot2, _, nt, hdt⟩ := hlp
  have hne : x1 ≠ it := hot_ne hot hoi hdi rfl
  have no : ¬ (Value.ref lp == Value.none) = true := fun z => Bool.noConfusion (show false = true from z)
  unfold pyNext
  refine wpAny_bind (wpAny_attempt (wpAny_callSpecial?_slot (name := Str.ofString "__next__") hT slot_listiter_next (wpAny_call_entry slot_listiter_next hT entry_listiter_next ?_ (args_listiter_next _))))
  show wpAny _ (Around.in1 A) (field (Value.ref it) 0 >>= _) _ _ s
  refine wpAny_bind (wpAny_field hoi hdi (x := .ref lp) rfl ?_)
  show wpAny _ (Around.in1 A) (if (Value.ref lp == Value.none) = true then _ else _) _ _ s
  rw [if_neg no]
  show wpAny _ (Around.in1 A) (field (Value.ref it) 1 >>= _) _ _ s
  refine wpAny_bind (wpAny_field hoi hdi (x := .int j 0) rfl ?_)
  show wpAny _ (Around.in1 A) (seqItems? (Value.ref lp) >>= _) _ _ s
  refine wpAny_bind (wpAny_seqItems hot2 hdt ?_)
  simp only [Int.toNat_natCast, hw]
  refine wpAny_bind (wpAny_rule (wpAny_bind (wpAny_setField hoi hdi (by simp) ?_)))
  refine stop_hot (hot_keep hot hne) fun g hg => hQ g fun b u hb e => hg b u ?_
  show (s.heap.update it _).get? b = some u
  rw [Heap.get?_update_other _ _ (Ne.symm hb)]
  exact e
/-- a list walked while x1 is handled -/
theorem walk_hot {x1 : Addr} {o1 : Obj} {vs1 : Array Value} (hh : A.handled = some (.ref x1)) (d1 : o1.data = .fields vs1) (c1 : vs1[2]? = some .none) (it lp : Addr) (hne : lp ≠ it) (ws : Array Value) :
    Walks prog w A it [it, lp, x1] [it] ws.size (fun j v => ws[j]? = some v) (fun j h => h.IsListIter it lp j ∧ h.IsList lp ws ∧ h.get? x1 = some o1) where
  sub := fun b hb => by
    rw [List.mem_singleton.mp hb]
    exact List.mem_cons_self
  frame := fun _ _ _ st hk => ⟨st.1.at fun u e => hk it (by simp) u e, st.2.1.at fun u e => hk lp (by simp) u e, hk x1 (by simp) _ st.2.2⟩
  item := fun j s Q E hj st hQ => by
    obtain ⟨s1, s2, s3⟩ := st
    have hx : x1 ≠ it := by
      obtain ⟨oi, hoi, _, hdi⟩ := id s1
      exact hot_ne (A := A) ⟨hh, o1, vs1, s3, d1, c1⟩ hoi hdi rfl
    refine wpAny_pyNext_list_item s1 s2 (x := ws[j]) (by simp [hj]) fun g hg sb => ?_
    exact hQ _ g s.toks (by simp [hj]) ⟨hg, s2.extBut sb.extBut hne, sb.extBut x1 _ hx s3⟩ fun b u hb e => sb.extBut b u (fun z => hb (by simp [z])) e
  done := fun s Q E st hQ => lstEnd_hot (x1 := x1) ⟨hh, o1, vs1, st.2.2, d1, c1⟩ st.1 st.2.1 (by simp) fun g hg => hQ g s.toks fun b u hb e => hg b u (fun z => hb (by simp [z])) e
  self := fun _ _ _ _ st hQ => wpAny_pyIter_listiter st.1 hQ
variable {lp x1 : Addr} {its : List Value} {ns : List Int} {Q : Value → Shared → Prop}
theorem iter_hot {x1 : Addr} {o1 : Obj} (h1 : s.heap.get? x1 = some o1) {xs : Array (Int × Tok)} {Q : Value → Shared → Prop} (hl : s.heap.IsList lp (intItems xs))
    (h : ∀ s2 : Shared, s2 = { s with heap := s.heap.push { cls := .type "list_iterator", data := .fields #[.ref lp, .int 0 0] } } → (s2.heap.IsListIter s.heap.objs.size lp 0 ∧ s2.heap.IsList lp (intItems xs) ∧ s2.heap.get? x1 = some o1) →
      (∀ b ∈ [s.heap.objs.size, lp, x1], b < s2.heap.objs.size) → lp ≠ s.heap.objs.size → Q (.ref s.heap.objs.size) s2) : wpAny (model prog w) A (pyIter (.ref lp)) Q E s :=
  iter_intList hl fun s2 e st hfp hne => h s2 e ⟨st.1, st.2, by rw [e]; exact Heap.get?_push_of_some _ h1⟩ (fun b hb => by
    rcases List.mem_cons.mp hb with q | hb
    · exact hfp b (by rw [q]; exact List.mem_cons_self)
    · rcases List.mem_cons.mp hb with q | hb
      · exact hfp b (by rw [q]; exact List.mem_cons_of_mem _ List.mem_cons_self)
      · rw [List.mem_singleton.mp hb, e]
        exact Heap.lt_size (Heap.get?_push_of_some _ h1)) hne
theorem sum_hot (hot : HotX.HotAt A x1 s.heap) (hl : s.heap.IsList lp its.toArray) (hi : IntsAre its ns)
    (h : ∀ g k t, (∀ b u, s.heap.get? b = some u → g.get? b = some u) → Q (.int ns.sum t) { s with heap := g, toks := k }) : wpAny (model prog w) A (call (.builtin "sum") [.ref lp]) Q E s := by
  obtain ⟨hh, o1, v1, h1, d1, c1⟩ := hot
  obtain ⟨xs, ex⟩ := hi.allInts.items
  have hns : numsOf (intItems xs).toList = ns := by rw [← ex]; exact hi.numsOf
  rw [nums_intItems] at hns
  rw [ex] at hl
  refine call_sum_walkG (iter_hot h1 hl fun s2 e st hfp hne => ?_)
  subst e
  refine ⟨_, _, _, _, _, _, numAt xs, rfl, walk_hot (A := A.in1) hh d1 c1 _ lp hne (intItems xs), st, hfp, fun _ _ => intItems_at, fun g k t hk => ?_⟩
  have key := h g k t (old_kept hk)
  rw [← hns] at key
  have hs : (intItems xs).size = xs.size := by simp [intItems]
  rw [hs, preSum_eq, List.take_of_length_le (by simp)]
  exact key
end
section
variable {X : Cx}
theorem cr_sumH (hc : L2H.HotC X) : CallR X (.builtin "sum") (rSum X.K) := by
  intro pins s σ H vs us Q I r h
  obtain ⟨a, ns, rfl, hs, q⟩ := h
  obtain ⟨its, rv, hl, _⟩ := I.list hs
  obtain ⟨x1, hot⟩ := hc.at I
  rw [Vals.ref1 r]
  exact sum_hot hot hl.isList rv.ints fun g k t hk => ⟨.int _, H, I.kept hk, ⟨_, rfl⟩, q⟩
end
end Sk
set_option Elab.async false
set_option linter.all false
set_option maxRecDepth 100000
set_option maxHeartbeats 1000000
namespace Sk
open PySem PySem.Spec PyProof.Rows L2 L2H
theorem turn_tupleH {P : Program} {w : World} {K : PySem.W.Frag} {tg : Expr} (tp it : Addr) : TurnH P w K tg (Itt K tp) [it] it (fun j h => h.IsTupleIter it tp j) where
  mem := List.mem_cons_self
  obj := fun j h st b hb => by
    rw [List.mem_singleton.mp hb]
    obtain ⟨u, e, _, d⟩ := st
    exact ⟨u, e, fun v z => by rw [d] at z; cases z⟩
  keep := fun j h g st k => st.at fun u e => k it List.mem_cons_self u e
  item := by
    rintro X rfl rfl rfl hc j pins s σ H E I hf st ⟨ys, y, hy, hj⟩
    obtain ⟨its, rv, p, _⟩ := I.tuple hy
    obtain ⟨u, hu, ru⟩ := rv.get hj
    obtain ⟨f0, f1, _, f3, f4, f5⟩ := hf it List.mem_cons_self
    refine wpAny_pyNext_tuple_item st (show s.heap.IsTuple tp its.toArray from p) (x := u) (by simpa using hu) fun g sg sb => ?_
    have J : Inv X pins σ H { s with heap := g } := I.turned (t' := s.toks) (fun b v hb e => (sb.2 b hb).trans e) f0 f1 f3 f4 f5
    obtain ⟨v, e, c, d⟩ := id sg
    refine ⟨u, rfl, go_of (s := { s with heap := g }) e c d (by decide) ⟨y, H, J, ru, ⟨rfl, fun zs hz => ?_⟩, sg, fun b hb => (hf b hb).1⟩⟩
    rw [I.tuple_inj hz hy]
    exact hj
  done := by
    rintro X rfl rfl rfl hc j pins s σ H E I hf st ⟨ys, hy, hj⟩
    obtain ⟨its, rv, p, _⟩ := I.tuple hy
    obtain ⟨f0, f1, _, f3, f4, f5⟩ := hf it List.mem_cons_self
    obtain ⟨x1, hot⟩ := hc.at I
    have hl := rv.length
    exact tupEnd_hot hot st (show s.heap.IsTuple tp its.toArray from p) (by simp; omega) fun g hg => ⟨rfl, I.turned (t' := s.toks) hg f0 f1 f3 f4 f5⟩
  self := fun _ _ _ _ _ st h => wpAny_pyIter_tupleiter st h
section
variable {X : Cx} {tg : Expr}
theorem pi_tupH {l : Expr} {tl : TE} (hl : PE X l tl) : PIH X tg l (iTup X.K tl) := by
  refine ⟨fun pins s σ H R I h => thn (hl.run pins s σ H _ I h) fun v s1 ⟨x, H1, J, r1, tp, e, ⟨ys, hy⟩, q⟩ => ?_⟩
  subst e
  cases r1
  obtain ⟨its, rv, p, _⟩ := J.tuple hy
  refine wpAny_pyIter_tuple (show s1.heap.IsTuple tp its.toArray from p) ⟨s1.heap.objs.size, [s1.heap.objs.size], _, _, H1, rfl, J.kept (t' := s1.toks) fun b u e => Heap.get?_push_of_some _ e, turn_tupleH tp _, ⟨_, Heap.get?_push_size _ rfl, rfl, rfl⟩, fun b hb => ?_, q⟩
  rw [List.mem_singleton.mp hb]
  exact J.fpOk (Nat.le_refl _) (J.hok.fresh (Nat.le_refl _))
end
/-- a block's context that bears what its def's context bears -/
abbrev blkH (X : Cx) (s : Shared) (H : Hp) (scope : Scope) (cenv : Env) (fp : List Addr) : Cx := { X.blk s H scope cenv fp with pn := X.pn }
theorem okH {X : Cx} {s : Shared} {H : Hp} {scope : Scope} {cenv : Env} {fp : List Addr} (j : (X.blk s H scope cenv fp).Ok) : (blkH X s H scope cenv fp).Ok :=
  ⟨j.mod, j.kind, j.glob, j.blt, j.above, j.inj, j.has, j.cab, j.hd, j.frames, j.stk, j.exf, j.bs, j.bsz, j.noex, j.exfs, j.funs, j.frf⟩
section
variable {X : Cx} {pins : List (Addr × Obj)} {σ : L2.St} {H : Hp} {s : Shared}
theorem startH {scope : Scope} {own : List (Str × Nat)} {fp : List Addr} (I : Inv X pins σ H s) (ok : BlkOk X.N X.env.scope scope own) (hN : X.N.Nodup) (hfp : ∀ b ∈ fp, FpOk X pins H b ∧ b < s.heap.objs.size) :
    Inv (blkH X s H scope (compEnvC scope (cellsFrom (s.heap.objs.size + 1) scope.names (cloFrom X.env.cells scope.names [])) s.heap.objs.size X.env) fp) [] (wipe σ (own.map (·.2))) H { s with heap := pushCells (s.heap.push { cls := .type "dict", data := .dict #[] }) scope.names } := by
  have J := block_start I ok hN hfp
  refine ⟨okH J.ok, J.os, J.bare, J.base, J.loc, J.cell, J.free, J.freeC, fun p hp => ?_, J.hok, J.len⟩
  rw [List.append_nil] at hp
  obtain ⟨g1, g2, g3, g4, g5⟩ := I.pin p (List.mem_append_left _ hp)
  refine ⟨pushCells_keeps _ _ _ _ (Heap.get?_push_of_some _ g1), g2, Nat.ne_of_lt (Heap.lt_size g1), fun hm => ?_, g5⟩
  rcases List.mem_cons.mp (I.stkSub p.1 hm) with z | z
  · exact g3 z
  · exact g4 z
/-- a turn's objects in the block -/
theorem fpH {s3 : Shared} {H3 H' : Hp} {scope : Scope} {cenv : Env} {fp : List Addr} {σ' : L2.St} {s' : Shared} (f : ∀ b ∈ fp, FpOk X pins H3 b) (J : Inv (blkH X s3 H3 scope cenv fp) [] σ' H' s') (hn : ∀ b ∈ fp, H' b = none) : ∀ b ∈ fp, FpOk (blkH X s3 H3 scope cenv fp) [] H' b :=
  fun b hb => ⟨hn b hb, (J.ok.exf b hb).1, J.ok.exfs b hb, .inl hb, fun x c e => (J.ok.exf b hb).2 x c e, fun p hp => (f b hb).2.2.2.2.2 p (by
    rw [List.append_nil] at hp
    exact List.mem_append_left _ hp)⟩
end
section
variable {X : Cx}
/-- [elt for target in iter if ..] as a value, while an exception is handled -/
theorem pe_lcH {elt tg iter : Expr} {ifs : List Expr} {scope : Scope} {own : List (Str × Nat)} {pos : Pos} {wi : TI} {g : TG} {tt : TT} {te : TE} (hc : HotC X) (hN : X.N.Nodup) (hi : PIH X tg iter wi) (ok : BlkOk X.N X.env.scope scope own)
    (hg : ∀ (s : Shared) (H : Hp) (C : Addr) (cl : List (Str × Addr)) (fp : List Addr), PG (blkH X s H scope (compEnvC scope cl C X.env) fp) tg g) (ht : ∀ (s : Shared) (H : Hp) (C : Addr) (cl : List (Str × Addr)) (fp : List Addr), PTs (blkH X s H scope (compEnvC scope cl C X.env) fp) ifs tt)
    (he : ∀ (s : Shared) (H : Hp) (C : Addr) (cl : List (Str × Addr)) (fp : List Addr), PE (blkH X s H scope (compEnvC scope cl C X.env) fp) elt te) (hs : ∀ x, foldedSetIterable iter X.env x = pure x := by intro _; rfl) :
    PE X (.ListComp elt [⟨tg, iter, ifs, 0⟩] scope pos) (tLc wi g tt te (own.map (·.2))) := by
  refine ⟨fun pins s σ H Q I h => ?_⟩
  rw [eval_ListComp]
  have hfree : ∀ y ∈ scope.names, y.2 = .free → ∃ c, X.env.cells.lookup y.1 = some c := fun y hy e => (ok.free y hy e).elim (fun k => I.ok.has _ (.inl k)) fun k => I.ok.has _ (.inr k)
  refine wpAny_comprehension_free (use := none) rfl hs (closure_ok hfree) ok.kind (fun y hy e => by rw [ok.uniq y hy, e]) (thn (hi.run pins s σ H _ I h) fun xv s1 hx => thn hx fun itv s2 ⟨it, fp, tn, J, H2, ei, I2, T, st2, f2, q⟩ => ?_)
  subst ei
  refine wpAny_newObj_type (newEnv_comp ?_) (by show 0 ≤ sizeLine; decide)
  -- the list to be, and the state with it
  obtain ⟨L, hL⟩ : ∃ L, s2.heap.objs.size = L := ⟨_, rfl⟩
  obtain ⟨W, ⟨m0, w0⟩, turn⟩ := q L (I2.hok.fresh (Nat.le_of_eq hL))
  obtain ⟨s3, hs3⟩ : ∃ s3 : Shared, ({ s2 with heap := s2.heap.push { cls := .type "list", data := .seq ([] : List Value).toArray } } : Shared) = s3 := ⟨_, rfl⟩
  have push3 : ∀ (b : Addr) (u : Obj), s2.heap.get? b = some u → s3.heap.get? b = some u := fun b u e => by rw [← hs3]; exact Heap.get?_push_of_some _ e
  have size3 : s2.heap.objs.size < s3.heap.objs.size := by rw [← hs3]; show _ < (s2.heap.push _).objs.size; rw [Heap.size_push]; exact Nat.lt_succ_self _
  have I3 : Inv X pins σ (upd H2 L (.lst [])) s3 := by
    rw [← hs3]
    exact I2.laid (t' := s2.toks) (fun b u e => Heap.get?_push_of_some _ e) (Nat.le_of_eq hL) ⟨Nat.zero_le _, [], 0, .nil, by rw [← hL]; exact Heap.get?_push_size _ rfl⟩
  have small : ∀ b ∈ fp, b < s2.heap.objs.size := fun b hb => (T.obj _ _ st2 b hb).elim fun u z => Heap.lt_size z.1
  have f3 : ∀ b ∈ fp, FpOk X pins (upd H2 L (.lst [])) b ∧ b < s3.heap.objs.size := fun b hb =>
    ⟨⟨by rw [upd_ne (by rw [← hL]; exact Nat.ne_of_lt (small b hb))]; exact (f2 b hb).1, (f2 b hb).2⟩, Nat.lt_trans (small b hb) size3⟩
  have I4 := startH I3 ok hN f3
  have pg := hg s3 (upd H2 L (.lst [])) s3.heap.objs.size (cellsFrom (s3.heap.objs.size + 1) scope.names (cloFrom X.env.cells scope.names [])) fp
  have pt := ht s3 (upd H2 L (.lst [])) s3.heap.objs.size (cellsFrom (s3.heap.objs.size + 1) scope.names (cloFrom X.env.cells scope.names [])) fp
  have pe := he s3 (upd H2 L (.lst [])) s3.heap.objs.size (cellsFrom (s3.heap.objs.size + 1) scope.names (cloFrom X.env.cells scope.names [])) fp
  rw [hs3, hL]
  obtain ⟨ce, hce⟩ : ∃ ce, compEnvC scope (cellsFrom (s3.heap.objs.size + 1) scope.names (cloFrom X.env.cells scope.names [])) s3.heap.objs.size X.env = ce := ⟨_, rfl⟩
  have cL : ce.locals = s3.heap.objs.size := by rw [← hce]; rfl
  obtain ⟨Qf, hQf⟩ : ∃ Qf, Qf = compPost (model X.prog X.w) X.A X.xe none (EP X pins σ Q) (.ref L) s3.heap.objs.size := ⟨_, rfl⟩
  suffices hgoal : codeAny (model X.prog X.w) X.A (.compStart (.ListComp elt [⟨tg, iter, ifs, 0⟩] scope pos) 0 (.ref it) (.ref L) ce) Qf { s3 with heap := pushCells (s3.heap.push { cls := .type "dict", data := .dict #[] }) scope.names } by
    rw [hQf, ← hce] at hgoal
    exact hgoal
  rw [hce] at I4 pg pt pe
  obtain ⟨H3, hH3⟩ : ∃ H3, upd H2 L (.lst []) = H3 := ⟨_, rfl⟩
  rw [hH3] at I3 I4 pg pt pe w0 f3
  obtain ⟨s4, hs4⟩ : ∃ s4 : Shared, ({ s3 with heap := pushCells (s3.heap.push { cls := .type "dict", data := .dict #[] }) scope.names } : Shared) = s4 := ⟨_, rfl⟩
  rw [hs4] at I4 ⊢
  have st4 : tn 0 s4.heap := T.keep _ _ _ st2 fun b _ u e => by rw [← hs4]; exact pushCells_keeps _ _ _ _ (Heap.get?_push_of_some _ (push3 b u e))
  have fB : ∀ b ∈ fp, FpOk X pins H3 b := fun b hb => (f3 b hb).1
  have loop : codeAny (model X.prog X.w) X.A (.compLoop (.ListComp elt [⟨tg, iter, ifs, 0⟩] scope pos) 0 (.ref it) (.ref L) ce) Qf s4 := by
    refine compLoop_any (fun n s' => ∃ j H', Inv (blkH X s3 H3 scope ce fp) [] (wipe σ (own.map (·.2))) H' s' ∧ tn j s'.heap ∧ (∀ b ∈ fp, H' b = none) ∧ W j n H') ?_ m0 ⟨0, H3, I4, st4, fun b hb => (fB b hb).1, w0⟩
    rintro n s5 ⟨j, H5, I5, st5, n5, w5⟩
    rcases turn j n H5 w5 with ⟨stop, qq⟩ | ⟨go, Nx, hNx, step⟩
    · refine thnF (T.done (blkH X s3 H3 scope ce fp) rfl rfl rfl hc j [] s5 _ H5 (fun _ _ => False) I5 (fpH fB I5 n5) st5 stop) fun r s6 ⟨hr, I6⟩ => ?_
      subst hr
      have I7 : Inv X pins σ H5 s6 := I3.call' (ch := fp) I6.os I6.base I6.hok I6.bare fun b hb => ⟨(fB b hb).2.2.2.1, (fB b hb).2.1, (fB b hb).2.2.2.2.1, (fB b hb).2.2.2.2.2⟩
      have nC : H5 s3.heap.objs.size = none := by rw [← cL]; exact I6.free
      obtain ⟨m, hn, _⟩ := I6.loc
      have hn : s6.heap.Ns ce.locals m := hn
      rw [cL] at hn
      obtain ⟨f0, f1, _, f3', f4, f5⟩ := I3.fpOk (Nat.le_refl _) nC
      rw [hQf]
      exact ⟨m, hn, fun g sb => ⟨.ref L, H5, I7.turned (t' := s6.toks) (fun b u hb e => (sb.2 b hb).trans e) f0 f1 f3' f4 f5, rfl, qq⟩⟩
    · refine thnF (T.item (blkH X s3 H3 scope ce fp) rfl rfl rfl hc j [] s5 _ H5 (fun _ _ => False) I5 (fpH fB I5 n5) st5 go) fun r s6 ⟨u, hr, h6⟩ => ?_
      subst hr
      refine thnF h6 fun _ s7 ⟨x, H7, I7, r7, y7, st7, n7⟩ => ?_
      refine thnF (pg.run _ s7 _ H7 x u _ (I7.pinned (fpH fB I7 n7) (T.obj _ _ st7)) r7 (step x H7 y7)) fun _ s8 ⟨σ8, H8, I8, hw8, q8⟩ => ?_
      -- how a turn ends
      have fin : ∀ {s' : Shared} {H' : Hp}, Inv (blkH X s3 H3 scope ce fp) ([] ++ pinsAt fp s7.heap) σ8 H' s' → Nx H' → ∃ m, m < n ∧ ∃ j H', Inv (blkH X s3 H3 scope ce fp) [] (wipe σ (own.map (·.2))) H' s' ∧ tn j s'.heap ∧ (∀ b ∈ fp, H' b = none) ∧ W j m H' := fun {s' H'} J' nx => by
        obtain ⟨m', hm, w'⟩ := hNx H' nx
        have stay : ∀ b ∈ fp, ∀ u, s7.heap.get? b = some u → s'.heap.get? b = some u ∧ H' b = none := fun b hb u e => by
          obtain ⟨z1, z2, _⟩ := J'.pin (b, u) (List.mem_append_right _ (List.mem_append_right _ (mem_pinsAt hb e)))
          exact ⟨z1, z2⟩
        refine ⟨m', hm, j + 1, H', (J'.unpinned (pins := [])).weak (by rw [← wipe_length σ8 (own.map (·.2)), hw8]) (fun i v e => ?_), T.keep _ _ _ st7 fun b hb u e => (stay b hb u e).1, fun b hb => ?_, w'⟩
        · rw [← hw8] at e
          exact (wipe_some e).1
        · obtain ⟨u, e, _⟩ := T.obj _ _ st7 b hb
          exact (stay b hb u e).2
      refine thnF (pt.run _ s8 σ8 H8 _ I8 q8) fun b s9 ⟨H9, I9, q9⟩ => ?_
      cases b with
      | false =>
        rw [if_neg Bool.false_ne_true] at q9 ⊢
        exact fin I9 q9
      | true =>
        rw [if_pos rfl] at q9 ⊢
        exact thnF (pe.run _ s9 σ8 H9 _ I9 q9) fun z s10 ⟨yv, H10, I10, r10, acc, hL10, hz10, nx⟩ => app_ok (X := blkH X s3 H3 scope ce fp) I10 hL10 hz10 r10 fun s11 I11 => fin I11 nx
  exact codeAny_compStart_list loop (T.self X.A 0 _ _ _ st4 loop)
end
end Sk
set_option Elab.async false
set_option linter.all false
set_option maxRecDepth 100000
set_option maxHeartbeats 1000000
namespace Sk
open PySem L2 Evl PySem.Spec PyProof.Rows L2H
section
variable {X : Cx} {C : Addr} {x m : Str} {j : Nat} {p p2 pos pos' : Pos}
theorem pmkN_err (T : ErrC X.prog X.w X.K X.mg X.base x C) (hr : Room 3 X.A) (hg : Gl X x) (hdb : (x == ("__debug__" : Str)) = false := by decide) :
    L2N.PMk X (.Call (.Name x p) [.Constant (.str m) j p2] [] pos) (fun _ H Q => ∀ H', Ex H H' → ∀ d, ErrAt X.K C d H' → Q (.ref C) (some d) H') := by
  obtain ⟨fI, fd, h1, h2, h3, F⟩ := T.i
  intro pins s σ H Q I h
  obtain ⟨nm, q, N, bs, bm, sn, sub, ab, col, dd, k0, k1, k2, k3, k5, hC, hbm⟩ := T.T.cls
  refine wpAny_Call_Name_kw (ld_glob I hg T.m ?_ hdb)
  refine PySem.W.callWith_K (h₀ := X.base) I.ok.mod.kin T.T.kC (thn ((pa_cons (pe_str (x := m)) pa_nil).run pos pins s σ H (fun vs H1 => vs = [.str m] ∧ H1 = H) I ⟨rfl, rfl⟩) fun us ⟨h0, gn, dw, tk, os⟩ ⟨vs, H1, J, rv, ev, eH⟩ => ⟨J.kIn, ?_⟩) rfl rfl
  subst ev eH
  show wpAny _ _ (call (.ref C) us) _ _ _
  obtain ⟨ga, eg⟩ : ∃ ga, h0.objs.size + 1 = ga := ⟨_, rfl⟩
  obtain ⟨g1, e1⟩ : ∃ g1, (h0.push (PySem.W.kdv_tup us)).push (PySem.HandSPX.excO C h0.objs.size) = g1 := ⟨_, rfl⟩
  have kp : ∀ b u, h0.get? b = some u → g1.get? b = some u := fun b u e => by rw [← e1]; exact Heap.get?_push_of_some _ (Heap.get?_push_of_some _ e)
  have sz : h0.objs.size ≤ ga := by rw [← eg]; exact Nat.le_succ _
  have new : g1.get? ga = some (PySem.HandSPX.excO C h0.objs.size) := by
    rw [← e1, ← eg]
    heap_get
  have free : H1 ga = none := J.hok.fresh sz
  have J2 : Inv X pins σ (upd H1 ga (exo ga C none)) ⟨g1, gn, dw, tk, os⟩ := J.laid (t' := tk) (h' := g1) kp sz (exo_ok new)
  have rv2 : Vals [.ref ga, .str m] (Value.ref ga :: us) := .cons rfl rv
  have lus : us.length ≤ sizeLine := by
    rw [← Paired.length rv, sizeLine_eq]
    show 1 ≤ _
    omega
  have hb := h3 ⟨g1, gn, dw, tk, os⟩ (Value.ref ga :: us) J2.kIn (by rw [List.append_nil, ← rv2.length]; rfl)
  rw [List.append_nil] at hb
  have wish : sp_cinit X.K (wordOf x) [.ref ga, .str m] (upd H1 ga (exo ga C none)) (fun v H2 => v = .non ∧ ∃ d, H2 ga = some (exo ga C (some d)) ∧ H2 d = some (exd d [("word", .str (wordOf x))]) ∧ H1 d = none ∧ Q (.ref C) (some d) (upd (del H2 ga) d (.xd [("word", .str (wordOf x))]))) (fun _ _ _ => False) := by
    refine ⟨ga, C, .str m, rfl, T.T, T.hw, upd_same, fun dx hd hne => ?_⟩
    rw [upd_ne hne] at hd
    refine ⟨rfl, dx, upd_same, by rw [upd_ne hne, upd_same], hd, h _ (fun b o hb => ?_) dx ⟨x, T.nm, upd_same⟩⟩
    have hb1 : b ≠ dx := fun z => by rw [z, hd] at hb; cases hb
    have hb2 : b ≠ ga := fun z => by rw [z, free] at hb; cases hb
    rw [upd_ne hb1, del_ne hb2, upd_ne hb2, upd_ne hb1, upd_ne hb2]
    exact hb
  have body := F.run (X.A.under (.builtin "type.__call__" ⟨.ref C :: us, []⟩)) X.stack ⟨g1, gn, dw, tk, os⟩ _ ⟨Value.ref ga :: us, []⟩ (Value.ref ga :: us) _ _ (fun _ _ _ => False) (hr.make C us []) (J2.env0.make C us []) hb rv2 wish
  subst e1 eg
  refine wpAny_call (PySem.HandSPX.call_own PySem.F.excBase_ValueError (fun Y => PySem.HandSPX.refsVE_contains Y bm hbm) (J.kIn _ _ hC) (PySem.W.looks_findIn J.kIn h1) (fun self => PySem.W.bind_fn J.kIn self h2) lus (codeAny_mono body fun r s' hq => ?_))
  cases r with
  | error er => exact False.elim hq
  | ok fl =>
    cases fl with
    | ret u =>
      obtain ⟨v, H2, os2, bare2, un2, hok2, rv', ev, d, ea, ed, hd1, q2⟩ := hq
      subst ev
      obtain ⟨g2, gn2, dw2, tk2, os'⟩ := s'
      obtain ⟨t0, G, J3, kG, ge, hoe, na⟩ := mk_end0 (d2 := dw2) (t2 := tk2) J sz kp un2 hok2 os2 bare2 ea ed hd1
      refine ⟨rv', _, _, _, ⟨G, gn2, dw2, tk2, os'⟩, _, .ref C, some d, rfl, J3, kG, ge, hoe, ⟨rfl, rfl, fun vs hv => ?_⟩, rfl, rfl, na, rfl, bare2, raises_own T.T.exC T.T.tyC, q2⟩
      cases hv
      rfl
    | next => exact False.elim hq
    | brk => exact False.elim hq
    | cont => exact False.elim hq
theorem ps_errN {E : XK} {W : WX} (hc : X.calm = true) (tk : L2N.Takes X W) (hW : W = fun cls d _ H => E cls d H) (T : ErrC X.prog X.w X.K X.mg X.base x C) (hr : Room 3 X.A) (hg : Gl X x) (hdb : (x == ("__debug__" : Str)) = false := by decide) :
    PS X (.Raise (some (.Call (.Name x p) [.Constant (.str m) j p2] [] pos)) none pos') (tRaise X.K E C) := by
  subst hW
  exact L2N.ps_raise hc tk (pmkN_err T hr hg hdb)
end
theorem passLN {X : Cx} : Passes (L2N.CX X.prog X.w) X E0 := fun _ _ _ _ _ _ _ h => by
  obtain ⟨_, _, _, _, _, _, _, _, _, _, _, _, z⟩ := h
  exact z.elim
theorem takes0N {X : Cx} : L2N.Takes X (fun _ _ _ _ => False) := fun _ _ x => by
  obtain ⟨_, _, _, _, _, _, _, _, _, _, _, _, _, _, _, _, z⟩ := x
  exact z.elim
section
variable {P : Program} {w : World} {K : PySem.W.Frag} {mg : Str → Option Value} {base : Heap} {x qual : Str} {st : Stmt} {f : Addr} {fd : FuncData} {N ps : List Str} {k : Nat} {sp : Sp}
theorem okXN (F : Fun K x qual st f fd) (S : FnScope N ps (defScope st)) (len : ∀ vs H Q E, sp vs H Q E → vs.length = ps.length)
    (hb : ∀ (cdv : Value) (A : Around) (outer : List Env) (s : Shared) (H : Hp) (vs : List V) (Q : VK) (E : XK), Room k (A.deeper (envOfC qual (defScope st) s.heap.objs.size f cdv)) → sp vs H Q E →
      ∃ t, PSs (cxOf (L2N.CX P w) P w K mg base N qual (defScope st) f cdv A outer s H E) (defBody st) t ∧ t { nx := fun _ H' => Q .non H', rt := Q } (start N vs) H) : FnOk P w K mg base (L2N.CX P w) (k + 1) f fd ps sp := by
  obtain ⟨oc, od, kV, doc, pm, an, cdv, ct, osl, rfl, lk, hcd⟩ := F.ex
  exact fn_of lk hcd S len fun A outer s H vs Q E hr q => hb cdv A outer s H vs Q E hr q
theorem okHot (F : Fun K x qual st f fd) (S : FnScope N ps (defScope st)) (len : ∀ vs H Q E, sp vs H Q E → vs.length = ps.length)
    (hb : ∀ (cdv : Value) (A : Around) (outer : List Env) (s : Shared) (H : Hp) (vs : List V) (Q : VK) (E : XK) (p : Addr × Obj), Hot1 A p → RoomH k (A.deeper (envOfC qual (defScope st) s.heap.objs.size f cdv)) → sp vs H Q E →
      ∃ t, PSs (cxH CX0 P w K mg base N qual (defScope st) f cdv A outer s H E p) (defBody st) t ∧ t { nx := fun _ H' => Q .non H', rt := Q } (start N vs) H) : FnH P w K mg base CX0 (k + 1) f fd ps sp := by
  obtain ⟨oc, od, kV, doc, pm, an, cdv, ct, osl, rfl, lk, hcd⟩ := F.ex
  exact fn_ofH lk hcd S len fun A outer s H vs Q E p hot hr q => hb cdv A outer s H vs Q E p hot hr q
theorem fnH_vac {CX : CXT} (no : ∀ vs H Q E, ¬ sp vs H Q E) : FnH P w K mg base CX k f fd ps sp := ⟨fun vs H Q E h => absurd h (no vs H Q E), fun A outer s H args us vs Q E p _ _ _ _ _ _ h => absurd h (no vs H Q E)⟩
end
section
variable {X : Cx} {k : Nat} {f : Addr} {fd : FuncData} {ps : List Str} {sp : Sp} {E : XK} {x : Str} {q pos : Pos} {e : Expr} {es : List Expr} {t : TA}
theorem hotC_mk {p : Addr × Obj} (h : Hot1 X.A p) (m : p ∈ X.pn) : HotC X := ⟨p, h, m⟩
theorem hotC_suite {a : Addr} {oe : Obj} {cls : Value} {d : Option Addr} {pn : List (Addr × Obj)} (hz : L2N.Zn cls d oe) (hf : ∃ vs, oe.data = .fields vs) : HotC (X.suite a ((a, oe) :: pn)) := by
  obtain ⟨vs, hv⟩ := hf
  exact ⟨(a, oe), ⟨rfl, vs, hv, hz.2.2 vs hv⟩, List.mem_cons_self⟩
theorem room_suite {A : Around} (r : Room k A) (h : Option Value) : RoomH k (A.mark h) := ⟨r.dp, r.un⟩
theorem pe_callHot (F : FnH X.prog X.w X.K X.mg X.base CX0 k f fd ps sp) (hr : RoomH k X.A) (hc : HotC X) (hg : Gl X x) (hm : X.mg x = some (.ref f)) (hk : PySem.W.keepIn X.K (.ref f) = true) (hb : Binds X.K fd ps []) (ha : PA X (e :: es) t)
    (hdb : (x == ("__debug__" : Str)) = false := by decide) (he : starEach (e :: es) X.env = (false, eval e X.env) :: starEach es X.env := by rfl) (hpl : (backTo pos (starEach es X.env)).any (·.1) = false := by rfl) :
    PE X (.Call (.Name x q) (e :: es) [] pos) (tCall sp [] E t) := by
  refine ⟨fun pins s σ H Q I h => (pe_callH (E := fun _ => E) F hr hc hg hm hk hb (fun _ _ _ _ _ _ _ z => z.elim) ha hdb he hpl).run pins s σ H Q I ?_⟩
  have z : (fun vs H1 => sp (vs ++ []) H1 Q E) = fun vs H1 => sp vs H1 Q E := by
    funext vs H1
    rw [List.append_nil]
  have h : t σ H (fun vs H1 => sp (vs ++ []) H1 Q E) := h
  rw [z] at h
  exact h
end
end Sk
set_option Elab.async false
set_option linter.all false
set_option maxRecDepth 100000
set_option maxHeartbeats 1000000
namespace Sk
open PySem L2 PySem.Spec PyProof.Rows
/-- an own exception at a, on the ground of the frame that catches -/
def OnGround (X : Cx) (pins : List (Addr × Obj)) (σ : L2.St) (H : Hp) (a : Addr) (cls : Value) (d : Option Addr) (s : Shared) : Prop :=
  ∃ (B : Heap) (sI : Shared), Inv X pins σ H sI ∧ (∀ b u, sI.heap.get? b = some u → b ∉ frs X.stack → B.get? b = some u) ∧ sI.heap.UpToSlots s.heap ∧ HandSPX.FlyingZ B (X.env :: X.outer) a (L2N.Zn cls d) s.heap ∧ H a = none ∧ s.os = sI.os ∧ AllBare s.gens
/-- what the clauses hds do with it where w is wished -/
def Catch (X : Cx) (hds : List ExceptHandler) (w : Ends → WX) : Prop := ∀ (pins : List (Addr × Obj)) (σ : L2.St) (H : Hp) (a : Addr) (cls : Value) (d : Option Addr) (s : Shared) (D : Ends), OnGround X pins σ H a cls d s → w D cls d σ H →
  wpAny (model X.prog X.w) X.A (handleBy (.ref a) X.env hds) (SP X pins D) X.xe s
section
variable {X : Cx} {x n : Str} {c : Value} {i : Nat} {body suite : List Stmt} {b₀ h1 : Stmt} {np pos pos' : Pos} {tb : WX → TS} {ts : Addr → Value → Option Addr → TS} {Wout : WX} {hds : List ExceptHandler} {w : Ends → WX}
theorem catch_nil (hs : X.stack = X.env :: X.outer) (hf : X.env.frame = some X.env.locals) (tk : L2N.Takes X Wout) : Catch X [] (fun _ => Wout) := by
  rintro pins σ H a cls d s D ⟨B, sI, J, nb, up, fl, na, os, ag⟩ hw
  refine wpAny_handleBy_nil ?_
  obtain ⟨_, _, _, oe, vs, T, oT, ts', he, _, hd, h1, _⟩ := id fl
  have up1 : wpAny (model X.prog X.w) X.A (setFlight (.ref a) X.env.frame) (fun _ s4 => wpAny (model X.prog X.w) X.A (throw (.ref a) : Sem Flow) (SP X pins D) X.xe s4) X.xe s := by
    rw [hf]
    exact HandSPX.setFlight_upZ fl fun g hg upg => wpAny_throw (tk _ _ ⟨a, B, sI, pins, σ, H, cls, d, rfl, J, nb, up.trans upg, .inr (.inr (by rw [hs]; exact hg)), na, os, ag, hw⟩)
  unfold PySem.passOn
  refine wpAny_bind (wpAny_field he hd h1 ?_)
  have no : ¬ (Value.ref T == Value.none) = true := fun z => Bool.noConfusion (show false = true from z)
  rw [if_neg no]
  first
    | exact wpAny_bind (wpAny_pure (wpAny_bind up1))
    | exact wpAny_bind up1
/-- the frame, with the exception pinned -/
theorem ground_suite {pins : List (Addr × Obj)} {σ : L2.St} {H : Hp} {a : Addr} {cls : Value} {d : Option Addr} {s : Shared} (hs : X.stack = X.env :: X.outer) (hf : X.env.frame = some X.env.locals) (g : OnGround X pins σ H a cls d s) :
    ∃ oe vs, s.heap.get? a = some oe ∧ L2N.Zn cls d oe ∧ oe.data = .fields vs ∧ Inv (X.suite a ((a, oe) :: (X.pn ++ pins))) [] σ H s := by
  obtain ⟨B, sI, J, nb, up, fl, na, os, ag⟩ := g
  obtain ⟨oe, vs, he, hz, hd⟩ := fl.there
  have out : a ∉ frs (X.env :: X.outer) := fun hm => by
    obtain ⟨_, o', e', hnf⟩ := fl.2.2.1.mem hm
    rw [he] at e'
    cases e'
    exact hnf _ hd
  have nL : a ≠ X.env.locals := fun z => out (List.mem_filterMap.mpr ⟨X.env, List.mem_cons_self, by rw [hf, z]⟩)
  have nF : a ∉ X.fs := fun hm => by
    obtain ⟨e, hmem, q⟩ := List.mem_filterMap.mp hm
    exact out (List.mem_filterMap.mpr ⟨e, List.mem_cons_of_mem _ hmem, q⟩)
  exact ⟨oe, vs, he, hz, hd, (J.landed nb fl.1 up os ag).suite he hd na nL nF⟩
/-- is it the clause's class? -/
theorem catch_test {pins : List (Addr × Obj)} {σ : L2.St} {H : Hp} {a : Addr} {cls : Value} {d : Option Addr} {s : Shared} {b : Bool} {A : Around} {Q : Bool → Shared → Prop} {E : Value → Shared → Prop} (hs : X.stack = X.env :: X.outer) (hf : X.env.frame = some X.env.locals) (hc : Names X x c)
    (g : OnGround X pins σ H a cls d s) (hb : PySem.W.exmOne X.K cls c = some b) :
    PySem.W.Looks (model X.prog X.w) s.heap (typeOf (.ref a)) cls ∧ ∀ {Q : Value → Shared → Prop} {E : Value → Shared → Prop}, Q c s → wpAny (model X.prog X.w) (X.A.mark (some (.ref a))) (eval (.Name x np) X.env) Q E s := by
  obtain ⟨oe, vs, he, hz, hd, S⟩ := ground_suite hs hf g
  refine ⟨fun A Q E s2 kp q => wpAny_typeOf_ref (kp _ _ he) (by rw [hz.1]; exact q), fun {Q E} q => ?_⟩
  obtain ⟨hg, hdbg, hm | ⟨hm, hv, hnn⟩⟩ := hc
  · exact ld_glob (X := X.suite a ((a, oe) :: (X.pn ++ pins))) S hg hm q hdbg
  · exact ld_blt (X := X.suite a ((a, oe) :: (X.pn ++ pins))) S hg hm hv q hnn hdbg
theorem ground_kin {pins : List (Addr × Obj)} {σ : L2.St} {H : Hp} {a : Addr} {cls : Value} {d : Option Addr} {s : Shared} (hs : X.stack = X.env :: X.outer) (hf : X.env.frame = some X.env.locals) (g : OnGround X pins σ H a cls d s) : X.K.In s.heap := by
  obtain ⟨oe, vs, he, hz, hd, S⟩ := ground_suite hs hf g
  exact S.kIn
theorem catch_only (hs : X.stack = X.env :: X.outer) (hf : X.env.frame = some X.env.locals) (hc : Names X x c)
    (hsu : ∀ (a : Addr) (oe : Obj) (cls : Value) (d : Option Addr) (pn : List (Addr × Obj)), L2N.Zn cls d oe → (∃ vs, oe.data = .fields vs) → PSs (X.suite a ((a, oe) :: pn)) (b₀ :: suite) (ts a cls d)) (r : Catch X hds w) :
    Catch X (.ExceptHandler (some (.Name x np)) none (b₀ :: suite) pos' :: hds) (fun D => wOnly X.K c ts (w D) D) := by
  rintro pins σ H a cls d s D g ⟨b, hb1, hyes, hno⟩
  have LT := catch_test (np := np) (A := X.A) (Q := fun _ _ => True) (E := fun _ _ => True) hs hf hc g hb1
  refine wpAny_handleBy_cons (codeAny_handlers_test ?_) (by intro q; cases q)
  refine LT.2 ((PySem.W.exm_one (M := model X.prog X.w) (ground_kin hs hf g) LT.1 hb1).here ?_)
  cases b with
  | false => exact r pins σ H a cls d s D g (hno rfl)
  | true =>
    obtain ⟨B, sI, J, nb, up, fl, na, os, ag⟩ := id g
    refine codeAny_handlers_suite ?_
    refine HandSPX.lands_againZ fl fun g4 fl4 up4 => ?_
    obtain ⟨oe, vs, he, hz, hd, S4⟩ := ground_suite (s := { s with heap := g4 }) hs hf ⟨B, sI, J, nb, up.trans up4, fl4, na, os, ag⟩
    have ok := J.ok
    refine wpAny_mono ((hsu a oe cls d (X.pn ++ pins) hz ⟨_, hd⟩).run [] _ _ H _ S4 (hyes rfl a na)) (fun f s6 hsp => ?_) (fun _ _ z => False.elim z)
    cases f with
    | ret u =>
      obtain ⟨v6, σ6, H6, S6, r6, q6⟩ := hsp
      exact ⟨v6, σ6, H6, S6.unsuite ok, r6, q6⟩
    | next => exact hsp.elim fun σ6 h6 => h6.elim fun H6 z => ⟨σ6, H6, z.1.unsuite ok, z.2⟩
    | brk => exact hsp.elim fun σ6 h6 => h6.elim fun H6 z => ⟨σ6, H6, z.1.unsuite ok, z.2⟩
    | cont => exact hsp.elim fun σ6 h6 => h6.elim fun H6 z => ⟨σ6, H6, z.1.unsuite ok, z.2⟩
variable {h₀ : ExceptHandler}
theorem ps_tries (hs : X.stack = X.env :: X.outer) (hf : X.env.frame = some X.env.locals)
    (hb : ∀ (W : WX) (pn : List (Addr × Obj)) (xe : Value → Shared → Prop), L2N.Takes (X.tr pn xe) W → PassesOwn (model X.prog X.w) X.A X.env xe → PSs (X.tr pn xe) body (tb W)) (hh : Catch X (h₀ :: hds) w) :
    PS X (.Try body (h₀ :: hds) [] [] pos) (fun D σ H => tb (w D) D σ H) := by
  refine ⟨fun pins s σ H D I h => ?_⟩
  have ok := I.ok
  have hfr : X.A.frames = some (X.env :: X.outer) := by rw [ok.frames, hs]
  refine wpAny_Try_except (wpAny_mono ((hb (w D) (X.pn ++ pins) _ (fun u s' xx => ?_) PassesOwn.looking).run [] s σ H D (I.toTry _) h) (fun f s1 hsp => ?_) (fun e s1 he => he))
  · obtain ⟨a, B, sI, pins', σ', H', cls, d, rfl, J', nb, up, sky, na, os, ag, hw⟩ := xx
    have sky' : Sky B (X.env :: X.outer) a (L2N.Zn cls d) X.env.locals s'.heap := by rw [← hs]; exact sky
    exact L2N.Sky.land L2N.Zn.steady hfr hf sky' fun g3 fl3 up3 => hh pins σ' H' a cls d { s' with heap := g3 } D ⟨B, sI, J'.ofTry ok, nb, up.trans up3, fl3, na, os, ag⟩ hw
  · cases f with
    | ret u => exact hsp.elim fun v hv => hv.elim fun σ' h' => h'.elim fun H' z => ⟨v, σ', H', z.1.ofTry ok, z.2.1, z.2.2⟩
    | next => exact hsp.elim fun σ' h' => h'.elim fun H' z => wpAny_execs_nil ⟨σ', H', z.1.ofTry ok, z.2⟩
    | brk => exact hsp.elim fun σ' h' => h'.elim fun H' z => ⟨σ', H', z.1.ofTry ok, z.2⟩
    | cont => exact hsp.elim fun σ' h' => h'.elim fun H' z => ⟨σ', H', z.1.ofTry ok, z.2⟩
end
end Sk
set_option Elab.async false
set_option linter.all false
set_option maxRecDepth 100000
set_option maxHeartbeats 1000000
set_option Elab.async false
set_option linter.all false
set_option maxRecDepth 100000
set_option maxHeartbeats 1000000
namespace Sk
open PySem L2 Evl
section
variable {K : PySem.W.Frag} {σ : L2.St} {H : Hp} {te tf tg : TE}
/-- isinstance(e, C) in the suite -/
theorem ev_isErr {CN c a d : Addr} {i : Nat} {b : Bool} (hd : ErrAt K CN d H) (hv : σ[i]? = some (some (.ref a))) (hk : PySem.W.kitOne K (.ref CN) (.ref c) = some b) : Ev (tCB (rIsEc K CN a (.ref CN) (some d)) (tCons (tVar i) (tCons (tC (.ref c)) tNil))) σ H (.bl b) :=
  ev_cb (ea_cons (ev_var hv) (ea_cons ev_c ea_nil)) fun H1 e1 Q q => ⟨(hd.ex e1).cau, .ref c, .ref c, b, rfl, fun u r => r, hk, q H1 (Ex.refl _)⟩
end
end Sk
set_option Elab.async false
set_option linter.all false
set_option maxRecDepth 100000
set_option maxHeartbeats 1000000
namespace Sk
open PySem L2 Evl
theorem toT_inj {a b : Int} (h : toT a = toT b) : a = b := by
  have := congrArg T.val h
  rw [toT_val, toT_val] at this
  exact this
end Sk
set_option Elab.async false
set_option linter.all false
set_option maxRecDepth 100000
set_option maxHeartbeats 1000000
namespace Sk
open PySem L2 Evl
theorem naf_off (a b : Nat) : ∀ (k : Nat) (x : Int), x.natAbs ≤ k → ∀ i : Nat, (naf x (i + a)).map (fun z => (z.1, z.2 + b)) = (naf x (i + b)).map fun z => (z.1, z.2 + a)
  | 0, x, h, i => by
    have : x = 0 := by omega
    subst this
    rw [naf_zero, naf_zero] <;> rfl
  | k + 1, x, h, i => by
    by_cases h0 : x = 0
    · subst h0; rw [naf_zero, naf_zero] <;> rfl
    rcases Int.emod_two_eq x with e | e
    · rw [naf_even e, naf_even e]
      have := naf_off a b k (x / 2) (by omega) (i + 1)
      rw [show i + 1 + a = i + a + 1 by omega, show i + 1 + b = i + b + 1 by omega] at this
      exact this
    · rw [naf_odd e, naf_odd e, List.map_cons, List.map_cons]
      congr 1
      · show (2 - x % 4, i + a + b) = (2 - x % 4, i + b + a)
        rw [show i + a + b = i + b + a by omega]
      · by_cases hz : (x - (2 - x % 4)) / 2 = 0
        · rw [hz, naf_zero, naf_zero] <;> rfl
        have := naf_off a b k ((x - (2 - x % 4)) / 2) (by omega) (i + 1)
        rw [show i + 1 + a = i + a + 1 by omega, show i + 1 + b = i + b + 1 by omega] at this
        exact this
theorem naf_offs {x : Int} {a b : Nat} {y : Int × Nat} (h : y ∈ naf x b) : ∃ z ∈ naf x a, y.1 = z.1 ∧ y.2 + a = z.2 + b := by
  have e := naf_off a b _ x (Nat.le_refl _) 0
  rw [Nat.zero_add, Nat.zero_add] at e
  have hm : (y.1, y.2 + a) ∈ (naf x b).map fun z => (z.1, z.2 + a) := List.mem_map.mpr ⟨y, h, rfl⟩
  rw [← e] at hm
  obtain ⟨z, hz, hzy⟩ := List.mem_map.mp hm
  rw [Prod.mk.injEq] at hzy
  exact ⟨z, hz, hzy.1.symm, hzy.2.symm⟩
def ShR (V p W : Int) : Prop := (V = 0 ∧ W = 0) ∨ ∃ (a : Nat) (x : Int), V = 2 ^ a * x ∧ x % 2 = 1 ∧ 0 ≤ (a : Int) + p ∧ W = 2 ^ ((a : Int) + p).toNat * x
/-- how great a value's terms are -/
structure VOk (V : Int) (M : Nat) : Prop where
  wt : wt V ≤ 80
  le : ∀ x ∈ naf V 0, x.2 ≤ M
theorem size_104 {n : Nat} (h : n ≤ 2 ^ 104) : (toT (n : Int)).size ≤ 1061 := by
  have hp : ∀ x ∈ naf (n : Int) 0, x.2 ≤ 104 := fun x hx => naf_le (by simpa using h) hx
  have hl := gap_len (naf (n : Int) 0) 0 104 (naf_gap _ _ (Nat.le_refl _) 0) fun x hx => ⟨Nat.zero_le _, hp x hx⟩
  rw [size_toT]
  have := sum_all ((naf (n : Int) 0).map (·.2)) (fun p : Nat => (toT (p : Int)).size) 20 fun p hp' => by
    obtain ⟨x, hx, rfl⟩ := List.mem_map.mp hp'
    have := hp x hx
    exact sz128 x.2 (by omega)
  rw [List.length_map] at this
  omega
theorem big_104 {n : Nat} (h : n ≤ 2 ^ 104) : Big (n : Int) := Nat.le_trans (by simpa using h : (n : Int).natAbs ≤ 2 ^ 104) (Nat.pow_le_pow_right (by decide) (by decide))
theorem VOk.size {V : Int} (h : VOk V (2 ^ 104)) : (toT V).size < 85000 := by
  rw [size_toT]
  have := sum_all ((naf V 0).map (·.2)) (fun p : Nat => (toT (p : Int)).size) 1061 fun p hp' => by
    obtain ⟨x, hx, rfl⟩ := List.mem_map.mp hp'
    exact size_104 (h.le x hx)
  rw [List.length_map] at this
  have h2 : (naf V 0).length ≤ 80 := h.wt
  omega
theorem VOk.sub {V : Int} (h : VOk V (2 ^ 104)) : ∀ x ∈ (toT V).toL, PlOk x.2 := fun x hx => by
  rw [toL_toT] at hx
  obtain ⟨y, hy, rfl⟩ := List.mem_map.mp hx
  exact big_ok (big_104 (h.le y (List.mem_reverse.mp hy)))
theorem VOk.height {V : Int} (h : VOk V (2 ^ 104)) : (toT V).height ≤ 7 := by
  refine height_le_of fun x hx => ?_
  rw [toL_toT] at hx
  obtain ⟨y, hy, rfl⟩ := List.mem_map.mp hx
  have := height_toT 6 (y.2 : Int) (big_cb (big_104 (h.le y (List.mem_reverse.mp hy))))
  show (toT (y.2 : Int)).height + 1 ≤ 7
  omega
theorem VOk.len {V : Int} {M : Nat} (h : VOk V M) : (toT V).toL.length ≤ 80 := by rw [toL_toT, List.length_map, List.length_reverse]; exact h.wt
theorem VOk.mono {V : Int} {M M' : Nat} (h : VOk V M) (hm : M ≤ M') : VOk V M' := ⟨h.wt, fun x hx => Nat.le_trans (h.le x hx) hm⟩
end Sk
set_option Elab.async false
set_option linter.all false
set_option maxRecDepth 100000
set_option maxHeartbeats 1000000
namespace Sk
open PySem L2 Evl
structure Sz (n : Int) (s h : Nat) : Prop where
  sz : (toT n).size ≤ s
  ht : (toT n).height ≤ h
theorem Sz.mono {n : Int} {s h s' h' : Nat} (z : Sz n s h) (hs : s ≤ s') (hh : h ≤ h') : Sz n s' h' := ⟨Nat.le_trans z.sz hs, Nat.le_trans z.ht hh⟩
theorem sz_fits {n : Int} (h : (toT n).fits) : Sz n 300 40 := ⟨h.1, h.2⟩
theorem place_mem {n : Int} {x : Int × Nat} (hx : x ∈ naf n 0) : (toT (x.2 : Int)).size < (toT n).size ∧ (toT (x.2 : Int)).height < (toT n).height :=
  mem_size (x := (x.1, toT (x.2 : Int))) (by rw [toL_toT]; exact List.mem_map.mpr ⟨x, List.mem_reverse.mpr hx, rfl⟩)
theorem Sz.place {n : Int} {s h : Nat} (z : Sz n (s + 1) (h + 1)) {x : Int × Nat} (hx : x ∈ naf n 0) : Sz (x.2 : Int) s h := by
  have := place_mem hx
  have := z.sz
  have := z.ht
  exact ⟨by omega, by omega⟩
theorem ht_zero : (toT 0).height = 0 := by rw [toT_eq, naf_zero]; rfl
theorem ht_one : (toT 1).height = 1 := by decide +kernel
theorem ht_pos {n : Int} (h : n ≠ 0) : 1 ≤ (toT n).height := by
  obtain ⟨x, hx⟩ := List.exists_mem_of_ne_nil _ (naf_ne (p := 0) h)
  have := place_mem hx
  omega
theorem ht_of {n : Int} {k : Nat} (h : ∀ x ∈ naf n 0, (toT (x.2 : Int)).height + 1 ≤ k) : (toT n).height ≤ k := height_le_of fun x hx => by
  rw [toL_toT] at hx
  obtain ⟨y, hy, rfl⟩ := List.mem_map.mp hx
  exact h y (List.mem_reverse.mp hy)
theorem ht_succ : ∀ (k q : Nat), q ≤ k → (toT ((q : Int) + 1)).height ≤ max (toT (q : Int)).height 1 + 1
  | k, 0, _ => by
    have : (toT (((0 : Nat) : Int) + 1)).height = 1 := ht_one
    omega
  | 0, q + 1, h => by omega
  | k + 1, q + 1, h => by
    refine ht_of fun x hx => Nat.succ_le_succ (add_place (q + 1 : Nat) 1 (fun p => (toT (p : Int)).height ≤ max (toT ((q + 1 : Nat) : Int)).height 1) (fun y hy => ?_) (fun y hy => ?_) x hx)
    · have h1 := place_mem hy
      have hl := naf_lt hy
      rw [Int.natAbs_natCast] at hl
      refine ⟨by omega, ?_⟩
      by_cases h0 : y.2 = 0
      · rw [h0]; have : (toT ((0 + 1 : Nat) : Int)).height = 1 := ht_one; omega
      · have h2 := ht_succ k y.2 (by omega)
        have h3 := ht_pos (n := (y.2 : Int)) (by omega)
        have e : ((y.2 + 1 : Nat) : Int) = (y.2 : Int) + 1 := by omega
        rw [e]
        omega
    · have hy0 : y.2 = 0 := by
        have := naf_lt hy
        have e : Int.natAbs 1 = 1 := rfl
        omega
      rw [hy0]
      have h0 : (toT ((0 : Nat) : Int)).height = 0 := ht_zero
      have h1 : (toT ((0 + 1 : Nat) : Int)).height = 1 := ht_one
      omega
theorem ht_sum (a b : Int) : (toT (a + b)).height ≤ max (max (toT a).height (toT b).height) 1 + 1 := by
  have pl : ∀ (n : Int) (m : Nat), (toT n).height ≤ m → 1 ≤ m → ∀ y ∈ naf n 0, (toT (y.2 : Int)).height ≤ m ∧ (toT ((y.2 + 1 : Nat) : Int)).height ≤ m := fun n m hn hm y hy => by
    have h1 := place_mem hy
    refine ⟨by omega, ?_⟩
    by_cases h0 : y.2 = 0
    · rw [h0]; have : (toT ((0 + 1 : Nat) : Int)).height = 1 := ht_one; omega
    · have h2 := ht_succ _ y.2 (Nat.le_refl _)
      have h3 := ht_pos (n := (y.2 : Int)) (by omega)
      have e : ((y.2 + 1 : Nat) : Int) = (y.2 : Int) + 1 := by omega
      rw [e]
      omega
  exact ht_of fun x hx => Nat.succ_le_succ (add_place a b (fun p => (toT (p : Int)).height ≤ max (max (toT a).height (toT b).height) 1) (pl a _ (by omega) (by omega)) (pl b _ (by omega) (by omega)) x hx)
theorem Sz.add {a b : Int} {s h s' h' : Nat} (x : Sz a s h) (y : Sz b s' h') {m : Nat} (h1 : h ≤ m) (h2 : h' ≤ m) (hm : 1 ≤ m) : Sz (a + b) (2 * (s + s')) (m + 1) := by
  have e1 := size_sum a b
  have e2 := ht_sum a b
  have := x.sz; have := y.sz; have := x.ht; have := y.ht
  exact ⟨by omega, by omega⟩
theorem naf_negM {n : Int} {x : Int × Nat} (h : x ∈ naf (-n) 0) : ∃ y ∈ naf n 0, x.2 = y.2 := by
  rw [naf_neg _ n 0 (Nat.le_refl _)] at h
  obtain ⟨y, hy, rfl⟩ := List.mem_map.mp h
  exact ⟨y, hy, rfl⟩
theorem size_negI (n : Int) : (toT (-n)).size = (toT n).size := by
  rw [size_toT, size_toT, naf_neg _ n 0 (Nat.le_refl _)]
  simp only [List.map_map]
  rfl
theorem Sz.neg {n : Int} {s h : Nat} (z : Sz n s h) : Sz (-n) s h := ⟨by rw [size_negI]; exact z.sz, ht_of fun x hx => by
  obtain ⟨y, hy, e⟩ := naf_negM hx
  have := place_mem hy
  have := z.ht
  rw [e]
  omega⟩
theorem SS_two {q : Nat} (h : 1 ≤ q) : 2 ≤ SS q := by
  have h1 := size_FF (q : Int)
  obtain ⟨x, hx⟩ := List.exists_mem_of_ne_nil _ (naf_ne (p := 0) (show (q : Int) ≠ 0 by omega))
  have h2 := SS_pos x.2
  have h3 : SS x.2 ≤ FF (q : Int) 0 := by
    unfold FF
    have : ∀ l : List (Int × Nat), x ∈ l → SS x.2 ≤ (l.map fun x => SS x.2).sum := by
      intro l
      induction l with
      | nil => intro h; cases h
      | cons y l ih =>
        intro hm
        have hn : 0 ≤ (l.map fun x => SS x.2).sum := by
          clear ih hm
          induction l with
          | nil => exact Int.le_refl _
          | cons z l ih => rw [List.map_cons, List.sum_cons]; have := SS_nn z.2; omega
        have := SS_nn y.2
        rw [List.map_cons, List.sum_cons]
        rcases List.mem_cons.mp hm with rfl | hm
        · omega
        · have := ih hm; omega
    exact this _ hx
  show 2 ≤ ((toT (q : Int)).size : Int)
  omega
theorem FF_two_len {p : Nat} (hp : 1 ≤ p) (n : Int) : 2 * ((naf n p).length : Int) ≤ FF n p := by
  unfold FF
  have : ∀ l : List (Int × Nat), (∀ x ∈ l, 1 ≤ x.2) → 2 * (l.length : Int) ≤ (l.map fun x => SS x.2).sum := by
    intro l
    induction l with
    | nil => intro _; exact Int.le_refl _
    | cons x l ih =>
      intro h
      have h1 := ih fun y hy => h y (List.mem_cons_of_mem _ hy)
      have h2 := SS_two (h x List.mem_cons_self)
      rw [List.map_cons, List.sum_cons, List.length_cons]
      omega
  exact this _ fun x hx => Nat.le_trans hp (naf_mem_ge _ n (Nat.le_refl _) p x hx).1
theorem wt_size (n : Int) : 2 * wt n ≤ (toT n).size := by
  have h1 := size_FF n
  unfold wt
  rcases Int.emod_two_eq n with h | h
  · have h2 := FF_two_len (p := 0 + 1) (by decide) (n / 2)
    rw [← FF_even h] at h2
    rw [naf_even h]
    omega
  · have h2 := FF_two_len (p := 0 + 1) (by decide) ((n - (2 - n % 4)) / 2)
    have h3 := FF_odd h 0
    have h4 := SS_pos 0
    rw [naf_odd h, List.length_cons]
    omega
theorem Sz.wt {n : Int} {s h : Nat} (z : Sz n s h) : 2 * wt n ≤ s := Nat.le_trans (wt_size n) z.sz
theorem lenT (n : Int) : (toT n).toL.length = wt n := by rw [toL_toT, List.length_map, List.length_reverse]; rfl
theorem memT {n : Int} {x : Int × T} (hx : x ∈ (toT n).toL) : ∃ y ∈ naf n 0, x.1 = y.1 ∧ x.2 = toT (y.2 : Int) := by
  rw [toL_toT] at hx
  obtain ⟨y, hy, rfl⟩ := List.mem_map.mp hx
  exact ⟨y, List.mem_reverse.mp hy, rfl, rfl⟩
theorem Sz.pl {n : Int} {s h : Nat} (z : Sz n s h) (hs : s ≤ 1400) (hh : h ≤ 43) : PlOk (toT n) := by
  refine ⟨toT_can n, Nat.le_trans z.ht hh, sz_ex (by have := z.sz; omega), by rw [lenT]; have := z.wt; omega, fun x hx => ?_⟩
  obtain ⟨y, hy, _, e⟩ := memT hx
  rw [e, lenT]
  have := wt_size (y.2 : Int)
  have := (place_mem hy).1
  have := z.sz
  omega
theorem Sz.sm {n : Int} {s h : Nat} (z : Sz n s h) (h0 : 0 ≤ n) (hs : s < 2000) (hw : Sk.wt n ≤ 500) (hh : h ≤ 42) : SmOk (toT n) :=
  ⟨toT_can n, by rw [toT_val]; exact h0, Nat.le_trans z.ht hh, by have := z.sz; omega, by rw [lenT]; exact hw⟩
theorem Sz.ok {n : Int} {s h : Nat} (z : Sz n s h) (hs : s < 90000) : (toT n).ok := ⟨toT_can n, nn_of_can (toT_can n) (by have := z.sz; omega), by rw [lenT]; have := z.wt; omega⟩
theorem Sz.szk {n : Int} {s h : Nat} (z : Sz n s h) (hs : s < 100000) : (toT n).szk := szk_of (by have := z.sz; omega)
end Sk
set_option Elab.async false
set_option linter.all false
set_option maxRecDepth 100000
set_option maxHeartbeats 1000000
namespace Sk
open PySem L2 Evl
theorem sz_nat {j : Nat} (h : j ≤ 400) : Sz (j : Int) 39 6 := ⟨sz2810 j (by omega), height_toT 6 _ (big_cb (big_of (by omega)))⟩
theorem size_sumP {n : Int} {m s : Nat} (hw : wt n ≤ m) (hp : ∀ x ∈ naf n 0, (toT (x.2 : Int)).size ≤ s) : (toT n).size ≤ 1 + s * m := by
  rw [size_toT]
  have h1 := sum_all ((naf n 0).map (·.2)) (fun p : Nat => (toT (p : Int)).size) s fun p hp' => by
    obtain ⟨x, hx, rfl⟩ := List.mem_map.mp hp'
    exact hp x hx
  rw [List.length_map] at h1
  have h2 : s * (naf n 0).length ≤ s * m := Nat.mul_le_mul (Nat.le_refl _) hw
  omega
section
variable {K : PySem.W.Frag} {CB CL : Addr} {x y : V} {H : Hp} {a b : Int}
theorem pAdd_ft (hx : NumV K H x (toT a)) (hy : NumV K H y (toT b)) (ha : Sz a 600 42) (hb : Sz b 600 42) : pAdd K CL x y H (fun v H' => (toT (a + b)).fits ∧ NumV K H' v (toT (a + b))) fun C => C = CL ∧ ¬ (toT (a + b)).fits :=
  ⟨toT a, toT b, hx, hy, ha.pl (by decide) (by decide), hb.pl (by decide) (by decide), by rw [toT_val, toT_val]; exact (ha.add hb (Nat.le_refl _) (Nat.le_refl _) (by decide)).szk (by decide), by rw [toT_val, toT_val]; exact fun hf v H' g => ⟨hf, g⟩, by rw [toT_val, toT_val]; exact fun hf => ⟨rfl, hf⟩⟩
/-- the number moved -/
theorem shR_mem {V p W : Int} (h : ShR V p W) : ∀ x ∈ naf W 0, ∃ y ∈ naf V 0, (x.2 : Int) = y.2 + p := by
  rcases h with ⟨rfl, rfl⟩ | ⟨c, x, rfl, hx, h0, rfl⟩
  · intro x hx; rw [naf_zero] at hx; cases hx
  · intro z hz
    rw [naf_shift] at hz
    obtain ⟨y, hy, _, e⟩ := naf_offs (a := 0 + c) hz
    exact ⟨y, by rw [naf_shift]; exact hy, by omega⟩
theorem shR_wt {V p W : Int} (h : ShR V p W) : wt W = wt V := by
  rcases h with ⟨rfl, rfl⟩ | ⟨c, x, rfl, hx, h0, rfl⟩
  · rfl
  · rw [wt_mul_pow, wt_mul_pow]
end
end Sk
set_option Elab.async false
set_option linter.all false
set_option maxRecDepth 100000
set_option maxHeartbeats 1000000
namespace Sk
open PySem L2 Evl
/-- no number of height h is greater -/
def Mx : Nat → Nat
  | 0 => 0
  | 1 => 1
  | 2 => 2
  | h + 3 => 2 ^ (Mx (h + 2) + 1)
theorem Mx_pos : ∀ h, 1 ≤ Mx (h + 1)
  | 0 => Nat.le_refl _
  | 1 => by decide
  | h + 2 => Nat.one_le_two_pow
/-- places up to m: below 2^(m+1) -/
theorem abs_places : ∀ (k : Nat) (n : Int) (p m : Nat), n.natAbs ≤ k → n ≠ 0 → (∀ x ∈ naf n p, x.2 ≤ m) → p ≤ m ∧ n.natAbs < 2 ^ (m + 1 - p)
  | 0, n, p, m, h, h0, _ => by omega
  | k + 1, n, p, m, h, h0, hx => by
    rcases Int.emod_two_eq n with e | e
    · rw [naf_even e] at hx
      obtain ⟨h1, h2⟩ := abs_places k (n / 2) (p + 1) m (by omega) (by omega) hx
      have e2 : m + 1 - p = (m + 1 - (p + 1)) + 1 := by omega
      rw [e2, Nat.pow_succ]
      exact ⟨by omega, by omega⟩
    · rw [naf_odd e] at hx
      have hp : p ≤ m := hx (2 - n % 4, p) List.mem_cons_self
      by_cases hz : (n - (2 - n % 4)) / 2 = 0
      · refine ⟨hp, ?_⟩
        have h1 : n.natAbs = 1 := by omega
        rw [h1]
        exact Nat.one_lt_two_pow (by omega)
      · obtain ⟨h1, h2⟩ := abs_places k ((n - (2 - n % 4)) / 2) (p + 1) m (by omega) hz fun x hx' => hx x (List.mem_cons_of_mem _ hx')
        have hev : (n - (2 - n % 4)) / 2 % 2 = 0 := by omega
        have e2 : m + 1 - p = (m + 1 - (p + 1)) + 1 := by omega
        have e3 : m + 1 - (p + 1) = (m - (p + 1)) + 1 := by omega
        rw [e2, Nat.pow_succ]
        rw [e3, Nat.pow_succ] at h2 ⊢
        generalize (2 : Nat) ^ (m - (p + 1)) = z at *
        exact ⟨hp, by omega⟩
theorem le_Mx : ∀ (h : Nat) (n : Int), (toT n).height ≤ h → n.natAbs ≤ Mx h
  | 0, n, hh => by
    by_cases h0 : n = 0
    · subst h0; exact Nat.le_refl _
    · have := ht_pos h0; omega
  | 1, n, hh => by
    by_cases h0 : n = 0
    · subst h0; decide
    · have := (abs_places _ n 0 0 (Nat.le_refl _) h0 fun x hx => by
        have h1 := place_mem hx
        have h2 := le_Mx 0 (x.2 : Int) (by omega)
        have : Mx 0 = 0 := rfl
        omega).2
      show n.natAbs ≤ 1
      omega
  | 2, n, hh => by
    by_cases h0 : n = 0
    · subst h0; decide
    · have h4 := (abs_places _ n 0 1 (Nat.le_refl _) h0 fun x hx => by
        have h1 := place_mem hx
        have h2 := le_Mx 1 (x.2 : Int) (by omega)
        have : Mx 1 = 1 := rfl
        omega).2
      have h4 : n.natAbs < 4 := h4
      show n.natAbs ≤ 2
      apply Classical.byContradiction
      intro hc
      rcases (show n = 3 ∨ n = -3 by omega) with rfl | rfl
      · have : (toT 3).height = 3 := by decide +kernel
        omega
      · have : (toT (-3)).height = 3 := by decide +kernel
        omega
  | h + 3, n, hh => by
    by_cases h0 : n = 0
    · subst h0; exact Nat.zero_le _
    · have := (abs_places _ n 0 (Mx (h + 2)) (Nat.le_refl _) h0 fun x hx => by
        have h1 := place_mem hx
        have h2 := le_Mx (h + 2) (x.2 : Int) (by omega)
        omega).2
      exact Nat.le_of_lt this
theorem Mx_Cb : ∀ h, 16 * Mx (h + 4) < Cb (h + 6)
  | 0 => by
    have h3 : Cb 3 = 3 := by decide
    have h4 : Cb 4 = 5 := by show 2 ^ (Cb 3 - 1) + 1 = 5; rw [h3]
    have h5 : Cb 5 = 17 := by show 2 ^ (Cb 4 - 1) + 1 = 17; rw [h4]
    have h6 : Cb 6 = 2 ^ 16 + 1 := by show 2 ^ (Cb 5 - 1) + 1 = _; rw [h5]
    have m4 : Mx 4 = 512 := by decide
    rw [h6, m4]
    decide
  | h + 1 => by
    have ih := Mx_Cb h
    have hp : 1 ≤ Mx (h + 4) := Mx_pos (h + 3)
    show 16 * 2 ^ (Mx (h + 4) + 1) < 2 ^ (Cb (h + 6) - 1) + 1
    rw [show (16 : Nat) = 2 ^ 4 from rfl, ← Nat.pow_add]
    exact Nat.lt_succ_of_le (Nat.pow_le_pow_right (by decide) (by omega))
theorem ht16 {n : Int} {h : Nat} (hn : n.natAbs ≤ 16 * Mx (h + 4)) : (toT n).height ≤ h + 5 := height_toT (h + 5) n (Nat.lt_of_le_of_lt hn (Mx_Cb h))
/-- at most k times the greatest allowed one -/
def Mg (n : Int) (k : Nat) : Prop := n.natAbs ≤ k * Mx 40
theorem mg_of {n : Int} (h : (toT n).height ≤ 40) : Mg n 1 := by have := le_Mx 40 n h; unfold Mg; omega
theorem mg_small {n : Int} {k : Nat} (h : n.natAbs ≤ k) : Mg n k := by
  have : 1 ≤ Mx 40 := Mx_pos 39
  unfold Mg
  exact Nat.le_trans h (Nat.le_mul_of_pos_right _ (by omega))
theorem Mg.mono {n : Int} {k k' : Nat} (h : Mg n k) (hk : k ≤ k') : Mg n k' := Nat.le_trans h (Nat.mul_le_mul hk (Nat.le_refl _))
theorem Mg.add {a b : Int} {i j : Nat} (h : Mg a i) (h' : Mg b j) : Mg (a + b) (i + j) := by
  unfold Mg at *
  rw [Nat.add_mul]
  omega
theorem Mg.neg {a : Int} {i : Nat} (h : Mg a i) : Mg (-a) i := by unfold Mg at *; rw [Int.natAbs_neg]; exact h
theorem Mg.sub {a b : Int} {i j : Nat} (h : Mg a i) (h' : Mg b j) : Mg (a - b) (i + j) := by rw [Int.sub_eq_add_neg]; exact h.add h'.neg
theorem Mg.place {n : Int} {k : Nat} (h : Mg n k) {x : Int × Nat} (hx : x ∈ naf n 0) : Mg (x.2 : Int) k := by
  have := naf_lt hx
  unfold Mg at *
  rw [Int.natAbs_natCast]
  omega
theorem Mg.ht {n : Int} {k : Nat} (h : Mg n k) (hk : k ≤ 16) : (toT n).height ≤ 41 := ht16 (h := 36) (Nat.le_trans h (Nat.mul_le_mul hk (Nat.le_refl _)))
structure Bd (n : Int) (s w k g : Nat) : Prop where
  sz : (toT n).size ≤ s
  wt : Sk.wt n ≤ w
  pl : ∀ x ∈ naf n 0, Sk.wt (x.2 : Int) ≤ k
  mg : Mg n g
theorem Bd.mono {n : Int} {s w k g s' w' k' g' : Nat} (h : Bd n s w k g) (h1 : s ≤ s') (h2 : w ≤ w') (h3 : k ≤ k') (h4 : g ≤ g') : Bd n s' w' k' g' :=
  ⟨Nat.le_trans h.sz h1, Nat.le_trans h.wt h2, fun x hx => Nat.le_trans (h.pl x hx) h3, h.mg.mono h4⟩
theorem bd_sz {n : Int} {s g : Nat} (h : (toT n).size ≤ s) (m : Mg n g) : Bd n s (s / 2) (s / 2) g := by
  have := wt_size n
  refine ⟨h, by omega, fun x hx => ?_, m⟩
  have := (place_mem hx).1
  have := wt_size (x.2 : Int)
  omega
theorem bd_fits {n : Int} (h : (toT n).fits) : Bd n 300 150 150 1 := bd_sz h.1 (mg_of h.2)
theorem wt_suc (q : Nat) : Sk.wt ((q + 1 : Nat) : Int) ≤ Sk.wt (q : Int) + 1 := by
  rw [Int.natCast_add]
  exact Nat.le_trans (wt_add _ _) (by rw [show ((1 : Nat) : Int) = 1 from rfl, show Sk.wt 1 = 1 by decide +kernel]; exact Nat.le_refl _)
theorem Bd.add {a b : Int} {s w k g s' w' k' g' m : Nat} (h : Bd a s w k g) (h' : Bd b s' w' k' g') (h1 : k ≤ m) (h2 : k' ≤ m) : Bd (a + b) (2 * (s + s')) (w + w') (m + 1) (g + g') := by
  have e1 := size_sum a b
  have e2 := wt_add a b
  have := h.sz; have := h'.sz; have := h.wt; have := h'.wt
  refine ⟨by omega, by omega, add_place a b (fun p => Sk.wt (p : Int) ≤ m + 1) (fun x hx => ?_) (fun x hx => ?_), h.mg.add h'.mg⟩
  · have := h.pl x hx; have := wt_suc x.2; exact ⟨by omega, by omega⟩
  · have := h'.pl x hx; have := wt_suc x.2; exact ⟨by omega, by omega⟩
theorem Bd.neg {a : Int} {s w k g : Nat} (h : Bd a s w k g) : Bd (-a) s w k g := ⟨by rw [size_negI]; exact h.sz, by rw [wt_negI]; exact h.wt, fun x hx => by
  obtain ⟨y, hy, e⟩ := naf_negM hx
  rw [e]
  exact h.pl y hy, h.mg.neg⟩
theorem Bd.sub {a b : Int} {s w k g s' w' k' g' m : Nat} (h : Bd a s w k g) (h' : Bd b s' w' k' g') (h1 : k ≤ m) (h2 : k' ≤ m) : Bd (a - b) (2 * (s + s')) (w + w') (m + 1) (g + g') := by rw [Int.sub_eq_add_neg]; exact h.add h'.neg h1 h2
/-- a place of a number whose size is known -/
theorem bd_place {n : Int} {s g : Nat} (h : (toT n).size ≤ s + 1) (m : Mg n g) {x : Int × Nat} (hx : x ∈ naf n 0) : Bd (x.2 : Int) s (s / 2) (s / 2) g := bd_sz (by have := (place_mem hx).1; omega) (m.place hx)
theorem Bd.pl' {n : Int} {s w k g : Nat} (h : Bd n s w k g) (hs : s ≤ 80000) (hw : w ≤ 700) (hk : k ≤ 800) (hg : g ≤ 16) : PlOk (toT n) := by
  refine ⟨toT_can n, Nat.le_trans (h.mg.ht hg) (by decide), fun x hx => ?_, by rw [lenT]; exact Nat.le_trans h.wt hw, fun x hx => ?_⟩
  · have := (mem_size hx).1; have := h.sz; omega
  · obtain ⟨y, hy, _, e⟩ := memT hx
    rw [e, lenT]
    exact Nat.le_trans (h.pl y hy) hk
/-- what bare_shift takes -/
def Lk (n : Int) : Prop := (toT n).toL.length < 90000 ∧ ∀ x ∈ (toT n).toL, PlOk x.2
theorem lk_of {n : Int} {w s : Nat} (hw : Sk.wt n ≤ w) (h : ∀ x ∈ naf n 0, Bd (x.2 : Int) s 700 800 16) (hw' : w < 90000) (hs : s ≤ 80000) : Lk n := by
  refine ⟨by rw [lenT]; omega, fun x hx => ?_⟩
  obtain ⟨y, hy, _, e⟩ := memT hx
  rw [e]
  exact (h y hy).pl' hs (Nat.le_refl _) (Nat.le_refl _) (Nat.le_refl _)
end Sk
set_option Elab.async false
set_option linter.all false
set_option maxRecDepth 100000
set_option maxHeartbeats 1000000
set_option Elab.async false
set_option linter.all false
set_option maxRecDepth 100000
set_option maxHeartbeats 1000000
set_option Elab.async false
set_option linter.all false
set_option maxRecDepth 100000
set_option maxHeartbeats 1000000
set_option Elab.async false
set_option linter.all false
set_option maxRecDepth 100000
set_option maxHeartbeats 1000000
set_option Elab.async false
set_option linter.all false
set_option maxRecDepth 100000
set_option maxHeartbeats 1000000
set_option Elab.async false
set_option linter.all false
set_option maxRecDepth 100000
set_option maxHeartbeats 1000000
set_option Elab.async false
set_option linter.all false
set_option maxRecDepth 100000
set_option maxHeartbeats 1000000
namespace Sk
open PySem PySem.Spec PyProof.Rows HT L2 Evl
def up (c : Nat) : Nat := if 97 ≤ c ∧ c ≤ 122 then c - 32 else c
def lo (c : Nat) : Nat := if 65 ≤ c ∧ c ≤ 90 then c + 32 else c
def sw (c : Nat) : Nat := if 65 ≤ c ∧ c ≤ 90 then c + 32 else if 97 ≤ c ∧ c ≤ 122 then c - 32 else c
end Sk
set_option Elab.async false
set_option linter.all false
set_option maxRecDepth 100000
set_option maxHeartbeats 1000000
set_option Elab.async false
set_option linter.all false
set_option maxRecDepth 100000
set_option maxHeartbeats 2000000
namespace Sk
open PySem L2 Evl
theorem kit_ref {K : PySem.W.Frag} {mg : Str → Option Value} {x : Str} {A B : Addr} {b : Bool} (C : ClsAt K mg x B) (h0 : PySem.W.subIn K (.ref A) (.ref A) = some true) (h : PySem.W.subIn K (.ref A) (.ref B) = some b) : PySem.W.kitOne K (.ref A) (.ref B) = some b := by
  unfold PySem.W.kitOne
  by_cases e : (Value.ref A == Value.ref B) = true
  · rw [if_pos e]
    have e' : A = B := Value.ref.inj (beq_iff_eq.mp e)
    subst e'
    rw [h0] at h
    exact h
  · rw [if_neg e]
    obtain ⟨cd, hc, _⟩ := PySem.W.any_some C.e.hd
    have e2 : ((PySem.W.clsIn K B).isSome && PySem.W.typeIn K (.ref B) == some (.type "type")) = true := by rw [hc, C.ty] <;> rfl
    show (if ((PySem.W.clsIn K B).isSome && PySem.W.typeIn K (.ref B) == some (.type "type")) = true then PySem.W.subIn K (.ref A) (.ref B) else none) = some b
    rw [if_pos e2]
    exact h
end Sk
set_option Elab.async false
set_option linter.all false
set_option maxRecDepth 100000
set_option maxHeartbeats 1000000
set_option Elab.async false
set_option linter.all false
set_option maxRecDepth 100000
set_option maxHeartbeats 1000000
set_option Elab.async false
set_option linter.all false
set_option maxRecDepth 100000
set_option maxHeartbeats 1000000
namespace Sk
open PySem L2 Evl
def inv (l : List Nat) : List Nat := l.reverse.map sw
def NumsL (n : Nat) : VP := fun v H => ∃ l : List Int, l.length = n ∧ (∀ x ∈ l, 0 ≤ x ∧ x < 2147483648) ∧ IntsL l v H
def pNumbers44 (K : PySem.W.Frag) : V → V → Hp → VP → Prop := fun x y H R => ∃ (a : Addr) (ns : List Int) (n : Nat), x = .ref a ∧ SqL K H a (ns.map V.int) ∧ ns.length ≤ 63 ∧ y = .int (n : Int) ∧ n ≤ 1000 ∧ R = NumsL n
def sp_law_numbers44 (K : PySem.W.Frag) : Sp := spF2 (pNumbers44 K)
def t_law_numbers44 (K : PySem.W.Frag) : TS := (tSeq (tAsg (tLst tNil) (gName 2))
    (tSeq (tFor (iRng1 (tCons (tCB (rLenS K) (tCons (tVar 0) tNil)) tNil)) (gName 3) (tSeq (tAsg (tCB xAbs (tCons (tCB xInt1 (tCons (tOp (rIxL K) (tVar 0) (tVar 3)) tNil)) tNil)) (gName 6))
    (tIfS (tTest (tOp xGe (tVar 6) (tOp xPow (tC (.int 10)) (tC (.int 18))))) (tFor (iRng1 (tCons (tC (.int 60)) tNil)) (gName 7) (tIfS (tAnd (tTest (tOp xGt (tVar 6) (tC (.int 0)))) (tTest (tOp xLt (tCB (rLenS K) (tCons (tVar 2) tNil)) (tVar 1)))) (tSeq (tDrop (tBM K "list" rAppend (tVar 2) (tCons (tOp xMod (tVar 6) (tC (.int 10007))) tNil)))
    (tAsg (tOp xFdiv (tVar 6) (tC (.int 10007))) (gName 6))) tNext)) (tIfS (tTest (tOp xLt (tCB (rLenS K) (tCons (tVar 2) tNil)) (tVar 1))) (tSeq (tAsg (tOp xMod (tCB xInt1 (tCons (tOp xAdd (tOp xAdd (tOp xMul (tVar 6) (tC (.int 48271))) (tOp xMul (tVar 3) (tC (.int 69621)))) (tC (.int 11))) tNil)) (tC (.int 2147483647))) (gName 8))
    (tDrop (tBM K "list" rAppend (tVar 2) (tCons (tOp xFdiv (tOp xMod (tCB xInt1 (tCons (tOp xAdd (tOp xAdd (tOp xMul (tVar 8) (tC (.int 16807))) (tOp xMul (tC (.int 7)) (tVar 3))) (tC (.int 3))) tNil)) (tC (.int 2147483647))) (tC (.int 3))) tNil)))) tNext))))
    (tSeq (tAsg (tCB (rLenS K) (tCons (tVar 2) tNil)) (gName 4))
    (tSeq (tAsg (tOp xAdd (tC (.int 5381)) (tCB (rLenS K) (tCons (tVar 0) tNil))) (gName 5))
    (tSeq (tFor (iRng1 (tCons (tCB xMax2 (tCons (tC (.int 0)) (tCons (tOp xSub (tVar 1) (tVar 4)) tNil))) tNil)) (gName 3) (tSeq (tIfS (tTest (tOp xGt (tVar 4) (tC (.int 0)))) (tAsg (tOp xAdd (tVar 5) (tOp (rIxL K) (tVar 2) (tOp xMod (tVar 3) (tVar 4)))) (gName 5)) tNext)
    (tSeq (tAsg (tOp xMod (tCB xInt1 (tCons (tOp xAdd (tOp xMul (tVar 5) (tC (.int 48271))) (tVar 3)) tNil)) (tC (.int 2147483647))) (gName 5))
    (tDrop (tBM K "list" rAppend (tVar 2) (tCons (tOp xFdiv (tVar 5) (tC (.int 7))) tNil))))))
    (tRet (tSl (rSlL K) (tVar 2) tNoPart (tPart (tVar 1)))))))))
theorem pure_law_numbers44 {K : PySem.W.Frag} {vs : List V} {H : Hp} {Q : VK} {E : XK} (h : sp_law_numbers44 K vs H Q E) : t_law_numbers44 K { nx := fun _ H' => Q .non H', rt := Q } (start ["script", "many", "numbers", "k", "base", "last", "cell", "j", "mixed"] vs) H := by
  obtain ⟨x, y, R, rfl, ⟨a, ns, n, rfl, hs, hn63, rfl, hn, rfl⟩, k⟩ := h
  have snoc : ∀ {ns : List Int} {v : Int}, (∀ w ∈ ns, 0 ≤ w ∧ w < 2147483648) → 0 ≤ v ∧ v < 2147483648 → ∀ w ∈ ns ++ [v], 0 ≤ w ∧ w < 2147483648 := fun h1 h2 w hw => by
    rcases List.mem_append.mp hw with h | h
    · exact h1 w h
    · rw [List.mem_singleton.mp h]; exact h2
  refine q_asgL (el_lst ea_nil (by decide)) fun l H1 hl e1 h1 => ?_
  refine q_forR1 (n := (ns.length : Int)) (ea_cons (ev_is (ev_len (ev_var rfl) (ex_l e1 hs)) (by rw [List.length_map])) ea_nil) ⟨by omega, by omega⟩ (fun i σ H' => ∃ (z3 z6 z7 z8 : Option V) (q : List Int), σ = [some (.ref a), some (.int (n : Int)), some (.ref l), z3, none, none, z6, z7, z8] ∧ Ex H H' ∧ H' l = some (.lst (q.map V.int)) ∧ q.length ≤ n ∧ ∀ v ∈ q, 0 ≤ v ∧ v < 2147483648)
    (fun H2 e2 => ⟨none, none, none, none, [], rfl, e1.trans e2, e2 l _ h1, Nat.zero_le _, fun v h => by cases h⟩) ?_ ?_
  · rintro i σ H' hi ⟨z3, z6, z7, z8, q, rfl, e2, h2, hq, hqr⟩
    have hir : i < ns.length := by omega
    refine q_asg (v := .int (if ns.getD i 0 < 0 then -ns.getD i 0 else ns.getD i 0)) (ev_abs (ev_int1 (ev_ints (ev_var rfl) (ev_var rfl) rfl (ex_l e2 hs) hir))) fun H3 e3 => ?_
    have hc0 : 0 ≤ (if ns.getD i 0 < 0 then -ns.getD i 0 else ns.getD i 0) := by split <;> omega
    generalize (if ns.getD i 0 < 0 then -ns.getD i 0 else ns.getD i 0) = c at hc0 ⊢
    have lenq : ∀ {σ : L2.St} {H4 : Hp} {q : List Int}, σ[2]? = some (some (.ref l)) → H4 l = some (.lst (q.map V.int)) → Ev (tCB (rLenS K) (tCons (tVar 2) tNil)) σ H4 (.int (q.length : Int)) := fun g1 g2 => ev_is (ev_lenL (ev_var g1) (sq_of g2)) (by rw [List.length_map])
    refine s_if (et_test (ev_ge (ev_var rfl) (ev_pow ev_c ev_c ⟨by decide, by decide, by decide⟩))) (fun _ H4 e4 => ?_) (fun _ H4 e4 => ?_)
    · refine s_forR1 (n := 60) (ea_cons ev_c ea_nil) ⟨by decide, by decide⟩ (fun j σ H5 => ∃ (z7 : Option V) (c : Int) (q : List Int), σ = [some (.ref a), some (.int (n : Int)), some (.ref l), some (.int (i : Int)), none, none, some (.int c), z7, z8] ∧ 0 ≤ c ∧ Ex H H5 ∧ H5 l = some (.lst (q.map V.int)) ∧ q.length ≤ n ∧ ∀ v ∈ q, 0 ≤ v ∧ v < 2147483648)
        (fun H5 e5 => ⟨z7, c, q, rfl, hc0, e2.trans (e3.trans (e4.trans e5)), (e3.trans (e4.trans e5)) l _ h2, hq, hqr⟩) ?_ ?_
      · rintro j σ H5 hj ⟨z7', c', q', rfl, hc', e5, h5, hq', hqr'⟩
        refine s_when (b := decide ((0 : Int) < c') && decide ((q'.length : Int) < (n : Int))) (et_and (et_test (ev_gt (ev_var rfl) ev_c)) fun _ => et_test (ev_lt (lenq rfl h5) (ev_var rfl))) (fun hb H6 e6 => ?_) (fun hb H6 e6 => ⟨_, c', q', rfl, hc', e5.trans e6, e6 l _ h5, hq', hqr'⟩)
        rw [Bool.and_eq_true, decide_eq_true_eq, decide_eq_true_eq] at hb
        refine q_app (e6 l _ h5) (ev_var rfl) (ev_mod (ev_var rfl) ev_c (by decide)) (by rw [List.length_map]; omega) fun H7 e7 => ?_
        refine s_asg (ev_fdiv (ev_var rfl) ev_c ⟨by decide, by decide⟩) fun H8 e8 => ⟨_, c' / 10007, q' ++ [c' % 10007], rfl, by omega, (Ex.mut (e5.trans (e6.trans e7)) hl).trans e8, by rw [List.map_append]; exact e8 l _ upd_same, by rw [List.length_append]; show _ + 1 ≤ n; omega, snoc hqr' (by omega)⟩
      · rintro σ H5 ⟨z7', c', q', rfl, hc', e5, h5, hq', hqr'⟩
        exact ⟨_, _, _, _, q', rfl, e5, h5, hq', hqr'⟩
    · have h4 := (e3.trans e4) l _ h2
      refine s_when (b := decide ((q.length : Int) < (n : Int))) (et_test (ev_lt (lenq rfl h4) (ev_var rfl))) (fun hb H5 e5 => ?_) (fun hb H5 e5 => ⟨_, _, _, _, q, rfl, e2.trans (e3.trans (e4.trans e5)), e5 l _ h4, hq, hqr⟩)
      have hlt := of_decide_eq_true hb
      refine q_asg (ev_mod (ev_int1 (ev_add (ev_add (ev_mul (ev_var rfl) ev_c (.inr (by decide))) (ev_mul (ev_var rfl) ev_c (.inr (by decide)))) ev_c)) ev_c (by decide)) fun H6 e6 => ?_
      refine s_app ((e5.trans e6) l _ h4) (ev_var rfl) (ev_fdiv (ev_mod (ev_int1 (ev_add (ev_add (ev_mul (ev_var rfl) ev_c (.inr (by decide))) (ev_mul ev_c (ev_var rfl) (.inl (by decide)))) ev_c)) ev_c (by decide)) ev_c ⟨by decide, by decide⟩) (by rw [List.length_map]; omega) fun H7 e7 => ⟨_, _, _, _, q ++ [_], rfl, Ex.mut (e2.trans (e3.trans (e4.trans (e5.trans (e6.trans e7))))) hl, by rw [List.map_append]; exact upd_same, by rw [List.length_append]; show _ + 1 ≤ n; omega, snoc hqr (by omega)⟩
  · rintro σ H' ⟨z3, z6, z7, z8, q, rfl, e2, h2, hq, hqr⟩
    refine q_asg (v := .int (q.length : Int)) (ev_is (ev_lenL (ev_var rfl) (sq_of h2)) (by rw [List.length_map])) fun H3 e3 => ?_
    refine q_asg (v := .int (5381 + (ns.length : Int))) (ev_add ev_c (ev_is (ev_len (ev_var rfl) (ex_l (e2.trans e3) hs)) (by rw [List.length_map]))) fun H4 e4 => ?_
    have hmax : (if (n : Int) - (q.length : Int) > 0 then (n : Int) - (q.length : Int) else 0) = ((n - q.length : Nat) : Int) := by split <;> omega
    refine q_forR1 (n := ((n - q.length : Nat) : Int)) (ea_cons (ev_is (ev_max ev_c (ev_sub (ev_var rfl) (ev_var rfl))) (congrArg V.int hmax)) ea_nil) ⟨by omega, by omega⟩ (fun i σ H' => ∃ (z3 : Option V) (c : Int) (q2 : List Int), σ = [some (.ref a), some (.int (n : Int)), some (.ref l), z3, some (.int (q.length : Int)), some (.int c), z6, z7, z8] ∧ Ex H H' ∧ H' l = some (.lst (q2.map V.int)) ∧ q2.length = q.length + i ∧ ∀ v ∈ q2, 0 ≤ v ∧ v < 2147483648)
      (fun H5 e5 => ⟨_, _, q, rfl, e2.trans (e3.trans (e4.trans e5)), (e3.trans (e4.trans e5)) l _ h2, rfl, hqr⟩) ?_ ?_
    · rintro i σ H5 hi ⟨z3', c, q2, rfl, e5, h5, hq2, hqr2⟩
      have key : ∀ (c : Int) (H6 : Hp), Ex H5 H6 → (tSeq (tAsg (tOp xMod (tCB xInt1 (tCons (tOp xAdd (tOp xMul (tVar 5) (tC (.int 48271))) (tVar 3)) tNil)) (tC (.int 2147483647))) (gName 5))
          (tDrop (tBM K "list" rAppend (tVar 2) (tCons (tOp xFdiv (tVar 5) (tC (.int 7))) tNil))))
          { nx := fun σ H' => ∃ (z3 : Option V) (c : Int) (q2 : List Int), σ = [some (.ref a), some (.int (n : Int)), some (.ref l), z3, some (.int (q.length : Int)), some (.int c), z6, z7, z8] ∧ Ex H H' ∧ H' l = some (.lst (q2.map V.int)) ∧ q2.length = q.length + (i + 1) ∧ ∀ v ∈ q2, 0 ≤ v ∧ v < 2147483648, ct := fun σ H' => ∃ (z3 : Option V) (c : Int) (q2 : List Int), σ = [some (.ref a), some (.int (n : Int)), some (.ref l), z3, some (.int (q.length : Int)), some (.int c), z6, z7, z8] ∧ Ex H H' ∧ H' l = some (.lst (q2.map V.int)) ∧ q2.length = q.length + (i + 1) ∧ ∀ v ∈ q2, 0 ≤ v ∧ v < 2147483648, bk := fun σ H => tRet (tSl (rSlL K) (tVar 2) tNoPart (tPart (tVar 1))) { nx := fun _ H' => Q .non H', rt := Q } σ H, rt := Q }
          [some (.ref a), some (.int (n : Int)), some (.ref l), some (.int (i : Int)), some (.int (q.length : Int)), some (.int c), z6, z7, z8] H6 := by
        intro c H6 e6
        refine q_asg (ev_mod (ev_int1 (ev_add (ev_mul (ev_var rfl) ev_c (.inr (by decide))) (ev_var rfl))) ev_c (by decide)) fun H7 e7 => ?_
        refine s_app ((e6.trans e7) l _ h5) (ev_var rfl) (ev_fdiv (ev_var rfl) ev_c ⟨by decide, by decide⟩) (by rw [List.length_map]; omega) fun H8 e8 => ⟨_, _, q2 ++ [_], rfl, Ex.mut (e5.trans (e6.trans (e7.trans e8))) hl, by rw [List.map_append]; exact upd_same, by rw [List.length_append]; show _ + 1 = _; omega, snoc hqr2 (by omega)⟩
      refine q_when (b := decide ((0 : Int) < (q.length : Int))) (et_test (ev_gt (ev_var rfl) ev_c)) (fun hb H6 e6 => ?_) (fun hb H6 e6 => key c H6 e6)
      have hpos := of_decide_eq_true hb
      have him : i % q.length < q2.length := by have := Nat.mod_lt i (show 0 < q.length by omega); omega
      exact s_asg (ev_add (ev_var rfl) (ev_ints (i := i % q.length) (ev_var rfl) (ev_mod (ev_var rfl) (ev_var rfl) (by omega)) (Int.natCast_emod _ _).symm (sq_of (e6 l _ h5)) him)) fun H7 e7 => key _ H7 (e6.trans e7)
    · rintro σ H5 ⟨z3', c, q2, rfl, e5, h5, hq2, hqr2⟩
      rw [Int.toNat_natCast] at hq2
      have hfull : q2.length = n := by omega
      exact el_sl (ev_var rfl) eo_none (eo_some (ev_var rfl)) (sq_of h5) H5 (Ex.refl _) _ fun p H6 hp e6 h6 => k _ H6 (e5.trans e6) ⟨q2.take n, by rw [List.length_take]; omega, fun v hv => hqr2 v (List.mem_of_mem_take hv), p, rfl, by rw [h6, cut_map]⟩
end Sk
set_option Elab.async false
set_option linter.all false
set_option maxRecDepth 100000
set_option maxHeartbeats 1000000
namespace Sk
open PySem L2 Evl
def ElV (K : PySem.W.Frag) (u v m : Int) : VP := fun x H => ∃ q a b c, x = .ref q ∧ SqT K H q [a, b, c] ∧ NumV K H a (toT u) ∧ NumV K H b (toT v) ∧ NumV K H c (toT m)
theorem elV {K : PySem.W.Frag} (u v m : Int) : Mono (ElV K u v m) := fun x H H' e ⟨q, a, b, c, h0, h1, h2, h3, h4⟩ => ⟨q, a, b, c, h0, ex_t e h1, h2.ex e, h3.ex e, h4.ex e⟩
def Pln (u v u' v' : Int) : Prop := (u = 0 ∧ u' = 0 ∧ v' = 0) ∨ ∃ a : Nat, u = 2 ^ a * u' ∧ u' % 2 = 1 ∧ v' = v + a
theorem pln_uniq {u v a b c d : Int} (h1 : Pln u v a b) (h2 : Pln u v c d) : a = c ∧ b = d := by
  rcases h1 with ⟨h0, rfl, rfl⟩ | ⟨i, hi, ho, rfl⟩ <;> rcases h2 with ⟨h0', rfl, rfl⟩ | ⟨j, hj, ho', rfl⟩
  · exact ⟨rfl, rfl⟩
  · have h2 : (2 : Int) ^ j > 0 := Int.pow_pos (by decide)
    rw [h0] at hj
    rcases Int.mul_eq_zero.mp hj.symm with h | h <;> omega
  · have h2 : (2 : Int) ^ i > 0 := Int.pow_pos (by decide)
    rw [h0'] at hi
    rcases Int.mul_eq_zero.mp hi.symm with h | h <;> omega
  · rw [hi] at hj
    obtain ⟨e1, e2⟩ := odd_uniq hj ho ho'
    exact ⟨e2, by rw [e1]⟩
theorem pln_scale {s l u' v' : Int} {k : Nat} (h : Pln s (l + k) u' v') : Pln (s * 2 ^ k) l u' v' := by
  rcases h with ⟨rfl, h1, h2⟩ | ⟨a, ha, ho, hv⟩
  · exact .inl ⟨Int.zero_mul _, h1, h2⟩
  · refine .inr ⟨a + k, ?_, ho, by rw [hv]; omega⟩
    rw [ha, Int.pow_add, Int.mul_assoc, Int.mul_comm u', ← Int.mul_assoc]
theorem pln_ex (u v : Int) : ∃ u' v', Pln u v u' v' := by
  by_cases h : u = 0
  · exact ⟨0, 0, .inl ⟨h, rfl, rfl⟩⟩
  · obtain ⟨a, m, h1, h2, _⟩ := odd_part5 _ u (Nat.le_refl _) h
    exact ⟨m, v + a, .inr ⟨a, h1, h2, rfl⟩⟩
theorem toT_nil_iff (n : Int) : toT n = .nil ↔ n = 0 := by
  constructor
  · intro h
    have := congrArg T.val h
    rw [toT_val] at this
    exact this
  · rintro rfl
    rw [toT_eq, naf_zero] <;> rfl
theorem lk_last {i : Nat} {n : Int} (h : Lk (2 ^ i * n)) (hn : n % 2 = 1) : PlOk (toT (i : Int)) := h.2 _ (List.mem_of_getElem? (last_term (a := i) hn))
theorem plok_neg {n : Int} (h : PlOk (toT n)) : PlOk (toT (-n)) := by rw [← negT_toT]; exact h.neg
theorem lk_neg {n : Int} (h : Lk n) : Lk (-n) := by
  obtain ⟨h1, h2⟩ := h
  unfold Lk
  rw [← negT_toT]
  refine ⟨by rw [negT_len]; exact h1, fun x hx => ?_⟩
  obtain ⟨y, hy, e⟩ := negT_mem hx
  rw [e]
  exact h2 y hy
section
variable {K : PySem.W.Frag} {σ : L2.St} {H : Hp} {ta tb tc te : TE} {R : VP}
theorem er_ifT {t : TT} {b : Bool} (h : EvT t σ H b) (h1 : b = true → ER ta σ H R) (h2 : b = false → ER tb σ H R) : ER (tIf t ta tb) σ H R := fun H1 e Q q => h H1 e _ fun H2 e2 => by
  cases b with
  | true => exact (h1 rfl) H2 (e.trans e2) Q fun v H3 e3 r => q v H3 (e2.trans e3) r
  | false => exact (h2 rfl) H2 (e.trans e2) Q fun v H3 e3 r => q v H3 (e2.trans e3) r
theorem er_nil45 : ER (tTup tNil) σ H (fun v H2 => NumV K H2 v (toT 0)) := fun H1 e Q q => eu_tup (vs := []) ea_nil (by show 0 ≤ 100000; omega) H1 e _ fun p H2 hp e2 h2 => q _ _ e2 (by rw [(toT_nil_iff 0).mpr rfl]; exact NumV.mk (st_of h2) TermsV.nil)
theorem et_truN {i : Nat} {v : V} {n : Int} (hi : σ[i]? = some (some v)) (hv : NumV K H v (toT n)) : EvT (tTruK K (tVar i)) σ H (!decide (n = 0)) := by
  obtain ⟨p, xs, rfl, hp, hxs⟩ := hv.out
  have h := et_truT (K := K) (ev_var (H := H) hi) hp
  have e : xs.isEmpty = decide (n = 0) := by
    rw [Bool.eq_iff_iff, List.isEmpty_iff, decide_eq_true_eq, ← toT_nil_iff n]
    have hl := hxs.len
    constructor
    · rintro rfl
      cases hT : toT n with
      | nil => rfl
      | cons s e r =>
        rw [hT] at hl
        exact absurd hl (by show ¬ 0 = _ + 1; omega)
    · intro hT
      rw [hT] at hl
      exact List.eq_nil_of_length_eq_zero hl
  rw [e] at h
  exact h
theorem er_lastE {i : Nat} {v : V} {a : Nat} {m : Int} (hi : σ[i]? = some (some v)) (hv : NumV K H v (toT (2 ^ a * m))) (hm : m % 2 = 1) : ER (tOp (rIxT K) (tOp (rIxT K) (tVar i) (tUn xNeg (tC (.int 1)))) (tC (.int 1))) σ H (fun w H' => NumV K H' w (toT (a : Int))) := by
  obtain ⟨p, xs, rfl, hp, hxs⟩ := hv.out
  obtain ⟨y, hy, q, w, rfl, hq, hw⟩ := (items_terms hxs).at (last_term hm)
  exact er_ev (ev_atT (ev_atT (ev_var hi) (ev_neg ev_c) hp (atI_lastT (by rw [hxs.len]; exact hy))) ev_c hq rfl) fun H1 e1 => hw.ex e1
theorem er_el {u v m : Int} (h1 : ER ta σ H (fun w H' => NumV K H' w (toT u))) (h2 : ER tb σ H (fun w H' => NumV K H' w (toT v))) (h3 : ER tc σ H (fun w H' => NumV K H' w (toT m))) : ER (tTup (tCons ta (tCons tb (tCons tc tNil)))) σ H (ElV K u v m) :=
  (er_tup (ea_three h1 numT.mono h2 numT.mono h3 numT.mono) (fun vs H1 H2 e ⟨a, b, c, g0, g1, g2, g3⟩ => ⟨a, b, c, g0, g1.ex e, g2.ex e, g3.ex e⟩) (fun vs H1 ⟨a, b, c, g0, _⟩ => by rw [g0]; show 3 ≤ 100000; omega)).imp fun w H' e ⟨p, vs, hv, hp, a, b, c, g0, g1, g2, g3⟩ => ⟨p, a, b, c, hv, st_of (by rw [hp, g0]), g1, g2, g3⟩
theorem er_bshiftL {u p : Int} {a : Nat} (h1 : ER ta σ H (fun w H' => NumV K H' w (toT (2 ^ a * u)))) (h2 : ER tb σ H (fun w H' => NumV K H' w (toT p))) (hb : Lk (2 ^ a * u)) (hp : PlOk (toT p)) (h : 0 ≤ (a : Int) + p) :
    ER (tCall (sp_bare_shift K) [] E0 (tCons ta (tCons tb tNil))) σ H (fun w H' => NumV K H' w (toT (2 ^ ((a : Int) + p).toNat * u))) :=
  er_call2 h1 numT.mono h2 numT.mono fun v w H1 e1 g1 g2 => ⟨_, _, g1, g2, hb.1, hb.2, hp, by rw [toT_val, shL_int u a p h]⟩
theorem er_plusP {u v : Int} (h1 : ER ta σ H (fun w H' => NumV K H' w (toT u))) (h2 : ER tb σ H (fun w H' => NumV K H' w (toT v))) (hu : PlOk (toT u)) (hv : PlOk (toT v)) : ER (tCall (sp_plus K) [] E0 (tCons ta (tCons tb tNil))) σ H (fun w H' => NumV K H' w (toT (u + v))) := by
  have := er_plus h1 h2 hu hv
  rw [toT_val, toT_val] at this
  exact this
theorem er_negP {u : Int} (h1 : ER ta σ H (fun w H' => NumV K H' w (toT u))) (hu : PlOk (toT u)) : ER (tCall (sp_negate K) [] E0 (tCons ta tNil)) σ H (fun w H' => NumV K H' w (toT (-u))) := by
  have := er_negate h1 (by have := hu.ln; omega)
  rw [negT_toT] at this
  exact this
end
def isPl (u v : Int) : Bool := if u = 0 then decide (v = 0) else decide (u % 2 = 1)
def pIsPlain (K : PySem.W.Frag) : V → Hp → VP → Prop := fun x H R => ∃ u v m : Int, ElV K u v m x H ∧ Lk u ∧ PlOk (toT v) ∧ R = fun w _ => w = .bl (isPl u v)
def sp_is_plain (K : PySem.W.Frag) : Sp := spF1 (pIsPlain K)
def t_is_plain (K : PySem.W.Frag) : TS := (tSeq (tAsg (tVar 0) (gTup K 3 (gCons (gName 1) (gCons (gName 2) (gCons (gName 3) gNil)))))
    (tRet (tIf (tTruK K (tVar 1)) (tOp (rEqN K) (tOp (rIxT K) (tOp (rIxT K) (tVar 1) (tUn xNeg (tC (.int 1)))) (tC (.int 1))) (tTup tNil)) (tOp (rEqN K) (tVar 2) (tTup tNil)))))
theorem pure_is_plain {K : PySem.W.Frag} {vs : List V} {H : Hp} {Q : VK} {E : XK} (h : sp_is_plain K vs H Q E) : t_is_plain K { nx := fun _ H' => Q .non H', rt := Q } (start ["element", "u", "v", "_"] vs) H := by
  obtain ⟨x, R, rfl, ⟨u, v, m, hx, hu, hv, rfl⟩, k⟩ := h
  refine q_unpack3 (K := K) (R := ElV K u v m) (er_var' rfl hx (elV u v m)) fun w H1 e1 ⟨q, a, b, c, hw, hq, ha, hb, hc⟩ => ⟨q, a, b, c, hw, hq, ?_⟩
  refine s_ret (v := .bl (isPl u v)) (ev_er (er_ifT (et_truN rfl ha) (fun h => ?_) (fun h => ?_))) fun H2 e2 => k _ H2 (e1.trans e2) rfl
  · have hu0 : u ≠ 0 := by simpa using h
    obtain ⟨i, n, rfl, hn, _⟩ := odd_part5 _ u (Nat.le_refl _) hu0
    have hi := lk_last hu hn
    refine er_ev (ev_is (ev_eqN (er_lastE rfl ha hn) er_nil45 (Nat.le_trans hi.ht (by decide))) ?_) fun _ _ => rfl
    unfold isPl
    rw [if_neg hu0]
    refine congrArg V.bl (decide_eq_decide.mpr ?_)
    rw [(toT_nil_iff 0).mpr rfl, toT_nil_iff]
    constructor
    · intro h
      have : i = 0 := by omega
      subst this
      rw [Int.pow_zero, Int.one_mul]
      exact hn
    · intro h
      cases i with
      | zero => rfl
      | succ i =>
        rw [Int.pow_succ, Int.mul_comm (2 ^ i) 2, Int.mul_assoc] at h
        omega
  · have hu0 : u = 0 := by simpa using h
    refine er_ev (ev_is (ev_eqN (er_var rfl fun H2 e2 => hb.ex e2) er_nil45 (Nat.le_trans hv.ht (by decide))) ?_) fun _ _ => rfl
    unfold isPl
    rw [if_pos hu0]
    exact congrArg V.bl (decide_eq_decide.mpr (by rw [(toT_nil_iff 0).mpr rfl, toT_nil_iff]))
def pBarePlain (K : PySem.W.Frag) : V → Hp → VP → Prop := fun x H R => ∃ u v m : Int, ElV K u v m x H ∧ Lk u ∧ PlOk (toT v) ∧ R = fun w H' => ∃ u' v', Pln u v u' v' ∧ ElV K u' v' m w H'
def sp_bare_plain (K : PySem.W.Frag) : Sp := spF1 (pBarePlain K)
def t_bare_plain (K : PySem.W.Frag) : TS := (tSeq (tAsg (tVar 0) (gTup K 3 (gCons (gName 2) (gCons (gName 3) (gCons (gName 4) gNil)))))
    (tSeq (tIfS (tNot (tTruK K (tVar 2))) (tRet (tTup (tCons (tTup tNil) (tCons (tTup tNil) (tCons (tVar 4) tNil))))) tNext)
    (tSeq (tAsg (tOp (rIxT K) (tOp (rIxT K) (tVar 2) (tUn xNeg (tC (.int 1)))) (tC (.int 1))) (gName 1))
    (tRet (tIf (tTruK K (tVar 1)) (tTup (tCons (tCall (sp_bare_shift K) [] E0 (tCons (tVar 2) (tCons (tCall (sp_negate K) [] E0 (tCons (tVar 1) tNil)) tNil))) (tCons (tCall (sp_plus K) [] E0 (tCons (tVar 3) (tCons (tVar 1) tNil))) (tCons (tVar 4) tNil)))) (tVar 0))))))
theorem pure_bare_plain {K : PySem.W.Frag} {vs : List V} {H : Hp} {Q : VK} {E : XK} (h : sp_bare_plain K vs H Q E) : t_bare_plain K { nx := fun _ H' => Q .non H', rt := Q } (start ["element", "zeros", "u", "v", "m"] vs) H := by
  obtain ⟨x, R, rfl, ⟨u, v, m, hx, hu, hv, rfl⟩, k⟩ := h
  obtain ⟨q, a, b, c, rfl, hq, ha, hb, hc⟩ := hx
  refine q_unpack3 (K := K) (R := fun v _ => v = .ref q) (er_is (ev_var rfl)) fun w H1 e1 hw => ⟨q, a, b, c, hw, ex_t e1 hq, ?_⟩
  replace hq := ex_t e1 hq
  replace ha := ha.ex e1
  replace hb := hb.ex e1
  replace hc := hc.ex e1
  refine q_when (et_not (et_truN rfl ha)) (fun h H2 e2 => ?_) (fun h H2 e2 => ?_)
  · have hu0 : u = 0 := by simpa using h
    exact s_retR (er_el er_nil45 er_nil45 (er_var rfl fun H3 e3 => hc.ex (e2.trans e3))) fun w H3 e3 g => k w H3 (e1.trans (e2.trans e3)) ⟨0, 0, .inl ⟨hu0, rfl, rfl⟩, g⟩
  · have hu0 : u ≠ 0 := by simpa using h
    obtain ⟨i, n, rfl, hn, _⟩ := odd_part5 _ u (Nat.le_refl _) hu0
    have hi := lk_last hu hn
    refine q_asgR (er_lastE rfl (ha.ex e2) hn) fun z H3 e3 hz => ?_
    have e13 := e1.trans (e2.trans e3)
    refine s_retR (R := fun w H' => ∃ u' v', Pln (2 ^ i * n) v u' v' ∧ ElV K u' v' m w H') (er_ifT (et_truN rfl hz) (fun hb2 => ?_) (fun hb2 => ?_)) fun w H4 e4 g => k w H4 (e13.trans e4) g
    · have h1 : ER (tCall (sp_bare_shift K) [] E0 (tCons (tVar 2) (tCons (tCall (sp_negate K) [] E0 (tCons (tVar 1) tNil)) tNil))) [some (.ref q), some z, some a, some b, some c] H3 (fun w H' => NumV K H' w (toT n)) := by
        have := er_bshiftL (u := n) (a := i) (p := -(i : Int)) (er_var (σ := [some (.ref q), some z, some a, some b, some c]) (i := 2) rfl fun H5 e5 => ha.ex (e2.trans (e3.trans e5))) (er_negP (er_var (i := 1) rfl fun H5 e5 => hz.ex e5) hi) hu (plok_neg hi) (by omega)
        rw [show ((i : Int) + -(i : Int)).toNat = 0 by omega, Int.pow_zero, Int.one_mul] at this
        exact this
      exact (er_el h1 (er_plusP (er_var rfl fun H5 e5 => hb.ex (e2.trans (e3.trans e5))) (er_var rfl fun H5 e5 => hz.ex e5) hv hi) (er_var rfl fun H5 e5 => hc.ex (e2.trans (e3.trans e5)))).imp fun w H5 e5 g => ⟨n, v + i, .inr ⟨i, rfl, hn, rfl⟩, g⟩
    · have hi0 : (i : Int) = 0 := by simpa using hb2
      have : i = 0 := by omega
      subst this
      exact er_var rfl fun H5 e5 => ⟨n, v + (0 : Nat), .inr ⟨0, rfl, hn, rfl⟩, q, a, b, c, rfl, ex_t (e2.trans (e3.trans e5)) hq, by
        have := ha.ex (e2.trans (e3.trans e5))
        rw [Int.pow_zero, Int.one_mul] at this
        exact this, by
        rw [show v + ((0 : Nat) : Int) = v by omega]
        exact hb.ex (e2.trans (e3.trans e5)), hc.ex (e2.trans (e3.trans e5))⟩
end Sk
set_option Elab.async false
set_option linter.all false
set_option maxRecDepth 100000
set_option maxHeartbeats 1000000
namespace Sk
open PySem L2 Evl
def tot (u v x y l : Int) : Int := u * 2 ^ (v - l).toNat + x * 2 ^ (y - l).toNat
def PrV (K : PySem.W.Frag) (s p : Int) : VP := fun w H => ∃ q a b, w = .ref q ∧ SqT K H q [a, b] ∧ NumV K H a (toT s) ∧ NumV K H b (toT p)
def SumV (K : PySem.W.Frag) (u v x y : Int) : VP := fun w H => ∃ s p l : Int, ∃ k : Nat, PrV K s p w H ∧ (l = v ∨ l = y) ∧ l ≤ v ∧ l ≤ y ∧ tot u v x y l = s * 2 ^ k ∧ p = l + k ∧ (p = v ∨ p = y) ∧ Lk s ∧ PlOk (toT p)
section
variable {K : PySem.W.Frag} {σ : L2.St} {H : Hp} {ta tb tc te : TE} {R : VP}
theorem er_pr {s p : Int} (h1 : ER ta σ H (fun w H' => NumV K H' w (toT s))) (h2 : ER tb σ H (fun w H' => NumV K H' w (toT p))) : ER (tTup (tCons ta (tCons tb tNil))) σ H (PrV K s p) :=
  (er_tup (ea_two h1 numT.mono h2 numT.mono) (fun vs H1 H2 e ⟨a, b, g0, g1, g2⟩ => ⟨a, b, g0, g1.ex e, g2.ex e⟩) (fun vs H1 ⟨a, b, g0, _⟩ => by rw [g0]; show 2 ≤ 100000; omega)).imp fun w H' e ⟨p, vs, hv, hp, a, b, g0, g1, g2⟩ => ⟨p, a, b, hv, st_of (by rw [hp, g0]), g1, g2⟩
end
/-- what sum_of_two takes -/
structure S2 (u v x y : Int) : Prop where
  pu : PlOk (toT u)
  px : PlOk (toT x)
  lu : Lk u
  lx : Lk x
  pv : PlOk (toT v)
  py : PlOk (toT y)
  zv : (toT v).size < 90000
  zy : (toT y).size < 90000
  d1 : PlOk (toT (y - v))
  d2 : PlOk (toT (v - y))
  s1 : v ≤ y → PlOk (toT (x * 2 ^ (y - v).toNat))
  s2 : y ≤ v → PlOk (toT (u * 2 ^ (v - y).toNat))
  w1 : v ≤ y → Lk (u + x * 2 ^ (y - v).toNat)
  w2 : y ≤ v → Lk (x + u * 2 ^ (v - y).toNat)
theorem S2.swap {u v x y : Int} (h : S2 u v x y) : S2 x y u v := ⟨h.px, h.pu, h.lx, h.lu, h.py, h.pv, h.zy, h.zv, h.d2, h.d1, h.s2, h.s1, h.w2, h.w1⟩
def pSum2 (K : PySem.W.Frag) (d : Nat) : V → V → V → V → Hp → VP → Prop := fun a b c e H R => ∃ u v x y : Int, NumV K H a (toT u) ∧ NumV K H b (toT v) ∧ NumV K H c (toT x) ∧ NumV K H e (toT y) ∧ S2 u v x y ∧ (u ≠ 0 → x ≠ 0 → y < v → 2 ≤ d) ∧ 1 ≤ d ∧ R = SumV K u v x y
def sp_sum_of_two (K : PySem.W.Frag) (d : Nat) : Sp := spF4 (pSum2 K d)
def t_sum_of_two (K : PySem.W.Frag) (d : Nat) : TS := (tSeq (tIfS (tNot (tTruK K (tVar 0))) (tRet (tTup (tCons (tVar 2) (tCons (tVar 3) tNil)))) tNext)
    (tSeq (tIfS (tNot (tTruK K (tVar 2))) (tRet (tTup (tCons (tVar 0) (tCons (tVar 1) tNil)))) tNext)
    (tSeq (tIfS (tTest (tOp xGt (tCall (sp_order K) [] E0 (tCons (tVar 1) (tCons (tVar 3) tNil))) (tC (.int 0)))) (tRet (tCall (sp_sum_of_two K d) [] E0 (tCons (tVar 2) (tCons (tVar 3) (tCons (tVar 0) (tCons (tVar 1) tNil)))))) tNext)
    (tRet (tTup (tCons (tCall (sp_plus K) [] E0 (tCons (tVar 0) (tCons (tCall (sp_bare_shift K) [] E0 (tCons (tVar 2) (tCons (tCall (sp_plus K) [] E0 (tCons (tVar 3) (tCons (tCall (sp_negate K) [] E0 (tCons (tVar 1) tNil)) tNil))) tNil))) tNil))) (tCons (tVar 1) tNil)))))))
theorem pure_sum_of_two {K : PySem.W.Frag} {d : Nat} {vs : List V} {H : Hp} {Q : VK} {E : XK} (h : sp_sum_of_two K (d + 1) vs H Q E) : t_sum_of_two K d { nx := fun _ H' => Q .non H', rt := Q } (start ["u", "v", "x", "y"] vs) H := by
  obtain ⟨a, b, c, e, R, rfl, ⟨u, v, x, y, ha, hb, hc, he, S, hd, _, rfl⟩, k⟩ := h
  refine q_when (et_not (et_truN rfl ha)) (fun h H1 e1 => ?_) (fun h H1 e1 => ?_)
  · have hu0 : u = 0 := by simpa using h
    refine s_retR (er_pr (er_var rfl fun H3 e3 => hc.ex (e1.trans e3)) (er_var rfl fun H3 e3 => he.ex (e1.trans e3))) fun w H3 e3 g => k w H3 (e1.trans e3) ⟨x, y, if v ≤ y then v else y, (y - (if v ≤ y then v else y)).toNat, g, by split <;> omega, by split <;> omega, by split <;> omega, ?_, by split <;> omega, .inr rfl, S.lx, S.py⟩
    unfold tot
    rw [hu0, Int.zero_mul, Int.zero_add]
  refine q_when (et_not (et_truN rfl (hc.ex e1))) (fun h2 H2 e2 => ?_) (fun h2 H2 e2 => ?_)
  · have hx0 : x = 0 := by simpa using h2
    refine s_retR (er_pr (er_var rfl fun H3 e3 => ha.ex (e1.trans (e2.trans e3))) (er_var rfl fun H3 e3 => hb.ex (e1.trans (e2.trans e3)))) fun w H3 e3 g => k w H3 (e1.trans (e2.trans e3)) ⟨u, v, if v ≤ y then v else y, (v - (if v ≤ y then v else y)).toNat, g, by split <;> omega, by split <;> omega, by split <;> omega, ?_, by split <;> omega, .inl rfl, S.lu, S.pv⟩
    unfold tot
    rw [hx0, Int.zero_mul, Int.add_zero]
  have hu0 : u ≠ 0 := by simpa using h
  have hx0 : x ≠ 0 := by simpa using h2
  have e12 := e1.trans e2
  have ord : Ev (tCall (sp_order K) [] E0 (tCons (tVar 1) (tCons (tVar 3) tNil))) [some a, some b, some c, some e] H2 (.int (cmpI (toT v).val (toT y).val)) := ev_er (er_call2 (P := pOrder K) (R1 := fun w H' => NumV K H' w (toT v)) (R2 := fun w H' => NumV K H' w (toT y)) (R := fun w _ => w = .int (cmpI (toT v).val (toT y).val)) (er_var (σ := [some a, some b, some c, some e]) (H := H2) (i := 1) rfl fun H3 e3 => hb.ex (e12.trans e3)) numT.mono (er_var (i := 3) rfl fun H3 e3 => he.ex (e12.trans e3)) numT.mono fun w w' H3 e3 g1 g2 => ⟨_, _, g1, g2, toT_can _, toT_can _, Nat.le_trans S.pv.ht (by decide), S.zv, S.zy, rfl⟩)
  rw [toT_val, toT_val] at ord
  refine q_when (b := decide (0 < cmpI v y)) (et_test (ev_gt ord ev_c)) (fun h3 H3 e3 => ?_) (fun h3 H3 e3 => ?_)
  · have hgt : y < v := by
      have := of_decide_eq_true h3
      unfold cmpI at this
      split at this <;> (try split at this) <;> omega
    have hd2 := hd hu0 hx0 hgt
    have e13 := e12.trans e3
    refine s_retR (R := SumV K x y u v) (er_call (ea_cons' (R1 := fun w H' => NumV K H' w (toT x)) (er_var rfl fun H5 e5 => hc.ex (e13.trans e5)) numT.mono (ea_three (R := fun w H' => NumV K H' w (toT y)) (R' := fun w H' => NumV K H' w (toT u)) (R'' := fun w H' => NumV K H' w (toT v)) (er_var rfl fun H5 e5 => he.ex (e13.trans e5)) numT.mono (er_var rfl fun H5 e5 => ha.ex (e13.trans e5)) numT.mono (er_var rfl fun H5 e5 => hb.ex (e13.trans e5)) numT.mono)) fun vs H5 e5 ⟨w1, r, hv1, g1, w2, w3, w4, hr, g2, g3, g4⟩ => by
      subst hv1 hr
      exact sr4 ⟨x, y, u, v, g1, g2, g3, g4, S.swap, fun _ _ h => by omega, by omega, rfl⟩) fun w H5 e5 ⟨s, p, l, kk, g, h1, h2, h3, h4, h5, h6, h7⟩ => k w H5 (e13.trans e5) ⟨s, p, l, kk, g, h1.symm, h3, h2, ?_, h5, h6.symm, h7⟩
    rw [← h4]
    unfold tot
    exact Int.add_comm _ _
  · have hle : v ≤ y := by
      have := of_decide_eq_false h3
      unfold cmpI at this
      split at this <;> (try split at this) <;> omega
    have e13 := e12.trans e3
    have hsh : ER (tCall (sp_bare_shift K) [] E0 (tCons (tVar 2) (tCons (tCall (sp_plus K) [] E0 (tCons (tVar 3) (tCons (tCall (sp_negate K) [] E0 (tCons (tVar 1) tNil)) tNil))) tNil))) [some a, some b, some c, some e] H3 (fun w H' => NumV K H' w (toT (x * 2 ^ (y - v).toNat))) := by
      have := er_bshiftL (u := x) (a := 0) (p := y + -v) (er_var (σ := [some a, some b, some c, some e]) (i := 2) rfl fun H5 e5 => by rw [Int.pow_zero, Int.one_mul]; exact hc.ex (e13.trans e5)) (er_plusP (er_var (i := 3) rfl fun H5 e5 => he.ex (e13.trans e5)) (er_negP (er_var (i := 1) rfl fun H5 e5 => hb.ex (e13.trans e5)) S.pv) S.py (plok_neg S.pv)) (by rw [Int.pow_zero, Int.one_mul]; exact S.lx) (by rw [← Int.sub_eq_add_neg]; exact S.d1) (by omega)
      rw [show (((0 : Nat) : Int) + (y + -v)).toNat = (y - v).toNat by omega, Int.mul_comm] at this
      exact this
    have hz : (v - v).toNat = 0 := by omega
    refine s_retR (er_pr (er_plusP (er_var rfl fun H5 e5 => ha.ex (e13.trans e5)) hsh S.pu (S.s1 hle)) (er_var rfl fun H5 e5 => hb.ex (e13.trans e5))) fun w H5 e5 g => k w H5 (e13.trans e5) ⟨_, v, v, 0, g, .inl rfl, Int.le_refl _, hle, ?_, by omega, .inl rfl, S.w1 hle, S.pv⟩
    unfold tot
    rw [hz, Int.pow_zero, Int.mul_one, Int.mul_one]
theorem vac_sum_of_two {K : PySem.W.Frag} {vs : List V} {H : Hp} {Q : VK} {E : XK} (h : sp_sum_of_two K 0 vs H Q E) : False := by
  obtain ⟨a, b, c, e, R, _, ⟨u, v, x, y, _, _, _, _, _, _, h, _⟩, _⟩ := h
  omega
def PrdV (K : PySem.W.Frag) (u v m x y n : Int) : VP := fun w H => ∃ l u' v' : Int, (l = v ∨ l = y + m) ∧ l ≤ v ∧ l ≤ y + m ∧ Pln (tot u v x (y + m) l) l u' v' ∧ ElV K u' v' (m + n) w H
def pBProd (K : PySem.W.Frag) : V → V → Hp → VP → Prop := fun a b H R => ∃ u v m x y n : Int, ElV K u v m a H ∧ ElV K x y n b H ∧ PlOk (toT m) ∧ PlOk (toT y) ∧ PlOk (toT n) ∧ S2 u v x (y + m) ∧ R = PrdV K u v m x y n
def sp_bare_product (K : PySem.W.Frag) : Sp := spF2 (pBProd K)
def t_bare_product (K : PySem.W.Frag) : TS := (tSeq (tAsg (tVar 0) (gTup K 3 (gCons (gName 2) (gCons (gName 3) (gCons (gName 4) gNil)))))
    (tSeq (tAsg (tVar 1) (gTup K 3 (gCons (gName 5) (gCons (gName 6) (gCons (gName 7) gNil)))))
    (tSeq (tAsg (tCall (sp_sum_of_two K 2) [] E0 (tCons (tVar 2) (tCons (tVar 3) (tCons (tVar 5) (tCons (tCall (sp_plus K) [] E0 (tCons (tVar 6) (tCons (tVar 4) tNil))) tNil))))) (gTup K 2 (gCons (gName 8) (gCons (gName 9) gNil))))
    (tRet (tCall (sp_bare_plain K) [] E0 (tCons (tTup (tCons (tVar 8) (tCons (tVar 9) (tCons (tCall (sp_plus K) [] E0 (tCons (tVar 4) (tCons (tVar 7) tNil))) tNil)))) tNil))))))
theorem pure_bare_product {K : PySem.W.Frag} {vs : List V} {H : Hp} {Q : VK} {E : XK} (h : sp_bare_product K vs H Q E) : t_bare_product K { nx := fun _ H' => Q .non H', rt := Q } (start ["first", "second", "u", "v", "m", "x", "y", "n", "w", "place"] vs) H := by
  obtain ⟨a, b, R, rfl, ⟨u, v, m, x, y, n, ha, hb, hm, hy, hn, S, rfl⟩, k⟩ := h
  obtain ⟨q, a1, a2, a3, rfl, hq, h1, h2, h3⟩ := ha
  obtain ⟨q', b1, b2, b3, rfl, hq', h4, h5, h6⟩ := hb
  refine q_unpack3 (K := K) (R := fun v _ => v = .ref q) (er_is (ev_var rfl)) fun w H1 e1 hw => ⟨q, a1, a2, a3, hw, ex_t e1 hq, ?_⟩
  refine q_unpack3 (K := K) (R := fun v _ => v = .ref q') (er_is (ev_var rfl)) fun w H2 e2 hw => ⟨q', b1, b2, b3, hw, ex_t (e1.trans e2) hq', ?_⟩
  have e12 := e1.trans e2
  refine q_unpack2 (K := K) (R := SumV K u v x (y + m)) (er_call (ea_cons' (R1 := fun w H' => NumV K H' w (toT u)) (er_var rfl fun H5 e5 => h1.ex (e12.trans e5)) numT.mono (ea_three (R := fun w H' => NumV K H' w (toT v)) (R' := fun w H' => NumV K H' w (toT x)) (R'' := fun w H' => NumV K H' w (toT (y + m))) (er_var rfl fun H5 e5 => h2.ex (e12.trans e5)) numT.mono (er_var rfl fun H5 e5 => h4.ex (e12.trans e5)) numT.mono (er_plusP (er_var rfl fun H5 e5 => h5.ex (e12.trans e5)) (er_var rfl fun H5 e5 => h3.ex (e12.trans e5)) hy hm) numT.mono)) fun vs H5 e5 ⟨w1, r, hv1, g1, w2, w3, w4, hr, g2, g3, g4⟩ => by
    subst hv1 hr
    exact sr4 ⟨u, v, x, y + m, g1, g2, g3, g4, S, fun _ _ _ => Nat.le_refl _, by omega, rfl⟩) fun w H3 e3 ⟨s, p, l, kk, ⟨qq, c1, c2, hw, hqq, g1, g2⟩, t1, t2, t3, t4, t5, t6, t7, t8⟩ => ⟨qq, c1, c2, hw, hqq, ?_⟩
  have e13 := e12.trans e3
  refine s_retR (R := PrdV K u v m x y n) ((er_call1 (R := fun w H' => ∃ u' v', Pln s p u' v' ∧ ElV K u' v' (m + n) w H') (R1 := ElV K s p (m + n)) (er_el (er_var rfl fun H5 e5 => g1.ex e5) (er_var rfl fun H5 e5 => g2.ex e5) (er_plusP (er_var rfl fun H5 e5 => h3.ex (e13.trans e5)) (er_var rfl fun H5 e5 => h6.ex (e13.trans e5)) hm hn)) (elV s p (m + n)) fun w H5 e5 g => ⟨s, p, m + n, g, t7, t8, rfl⟩).imp fun w H5 e5 ⟨u', v', g3, g4⟩ => ⟨l, u', v', t1, t2, t3, ?_, g4⟩) fun w H5 e5 g => k w H5 (e13.trans e5) g
  rw [t4]
  rw [t5] at g3
  exact pln_scale g3
def pBInv (K : PySem.W.Frag) : V → Hp → VP → Prop := fun a H R => ∃ u v m : Int, ElV K u v m a H ∧ PlOk (toT u) ∧ Lk u ∧ PlOk (toT v) ∧ PlOk (toT m) ∧ PlOk (toT (v - m)) ∧ R = fun w H' => ∃ u' v', Pln (-u) (v - m) u' v' ∧ ElV K u' v' (-m) w H'
def sp_bare_inverse (K : PySem.W.Frag) : Sp := spF1 (pBInv K)
def t_bare_inverse (K : PySem.W.Frag) : TS := (tSeq (tAsg (tVar 0) (gTup K 3 (gCons (gName 1) (gCons (gName 2) (gCons (gName 3) gNil)))))
    (tRet (tCall (sp_bare_plain K) [] E0 (tCons (tTup (tCons (tCall (sp_negate K) [] E0 (tCons (tVar 1) tNil)) (tCons (tCall (sp_plus K) [] E0 (tCons (tVar 2) (tCons (tCall (sp_negate K) [] E0 (tCons (tVar 3) tNil)) tNil))) (tCons (tCall (sp_negate K) [] E0 (tCons (tVar 3) tNil)) tNil)))) tNil))))
theorem pure_bare_inverse {K : PySem.W.Frag} {vs : List V} {H : Hp} {Q : VK} {E : XK} (h : sp_bare_inverse K vs H Q E) : t_bare_inverse K { nx := fun _ H' => Q .non H', rt := Q } (start ["element", "u", "v", "m"] vs) H := by
  obtain ⟨a, R, rfl, ⟨u, v, m, ha, hu, lu, hv, hm, hd, rfl⟩, k⟩ := h
  obtain ⟨q, a1, a2, a3, rfl, hq, h1, h2, h3⟩ := ha
  refine q_unpack3 (K := K) (R := fun v _ => v = .ref q) (er_is (ev_var rfl)) fun w H1 e1 hw => ⟨q, a1, a2, a3, hw, ex_t e1 hq, ?_⟩
  have nm : ∀ {H5}, Ex H1 H5 → ER (tCall (sp_negate K) [] E0 (tCons (tVar 3) tNil)) [some (.ref q), some a1, some a2, some a3] H5 (fun w H' => NumV K H' w (toT (-m))) := fun e => er_negP (er_var (i := 3) rfl fun H5 e5 => h3.ex (e1.trans (e.trans e5))) hm
  refine s_retR (R := fun w H' => ∃ u' v', Pln (-u) (v - m) u' v' ∧ ElV K u' v' (-m) w H') (er_call1 (R1 := ElV K (-u) (v + -m) (-m)) (er_el (er_negP (er_var rfl fun H5 e5 => h1.ex (e1.trans e5)) hu) (er_plusP (er_var rfl fun H5 e5 => h2.ex (e1.trans e5)) (nm (Ex.refl _)) hv (plok_neg hm)) (nm (Ex.refl _))) (elV _ _ _) fun w H5 e5 g => ⟨-u, v + -m, -m, g, lk_neg lu, by rw [show v + -m = v - m by omega]; exact hd, by rw [show v + -m = v - m by omega]⟩) fun w H5 e5 g => k w H5 (e1.trans e5) g
end Sk
set_option Elab.async false
set_option linter.all false
set_option maxRecDepth 100000
set_option maxHeartbeats 1000000
namespace Sk
open PySem L2 Evl
structure El where
  u : Int
  v : Int
  m : Int
@[ext] theorem El.ext' {a b : El} (h1 : a.u = b.u) (h2 : a.v = b.v) (h3 : a.m = b.m) : a = b := by
  cases a; cases b; cases h1; cases h2; cases h3; rfl
/-- u 2^v, over 2^N -/
def rp (u v N : Int) : Int := u * 2 ^ (v + N).toNat
def El.rp (e : El) (N : Int) : Int := Sk.rp e.u e.v N
def El.pl (e : El) : Prop := (e.u = 0 ∧ e.v = 0) ∨ e.u % 2 = 1
theorem pln_pl {u v u' v' m : Int} (h : Pln u v u' v') : El.pl ⟨u', v', m⟩ := by
  rcases h with ⟨_, h1, h2⟩ | ⟨_, _, h, _⟩
  · exact .inl ⟨h1, h2⟩
  · exact .inr h
theorem pln_rp {u v u' v' N : Int} (h : Pln u v u' v') (hN : 0 ≤ v + N) : rp u' v' N = rp u v N := by
  unfold rp
  rcases h with ⟨rfl, rfl, rfl⟩ | ⟨a, rfl, _, rfl⟩
  · rw [Int.zero_mul, Int.zero_mul]
  · rw [show (v + a + N).toNat = (v + N).toNat + a by omega, Int.pow_add, Int.mul_comm ((2 : Int) ^ a) u', Int.mul_assoc, Int.mul_comm (2 ^ (v + N).toNat)]
theorem rp_zero (v N : Int) : rp 0 v N = 0 := Int.zero_mul _
theorem pl_pln {e : El} (h : e.pl) : Pln e.u e.v e.u e.v := by
  rcases h with ⟨h1, h2⟩ | h
  · exact .inl ⟨h1, h1, h2⟩
  · exact .inr ⟨0, by rw [Int.pow_zero, Int.one_mul], h, by omega⟩
/-- plain ones are told apart by their values -/
theorem rp_inj {e f : El} (he : e.pl) (hf : f.pl) (N : Int) (hN : 0 ≤ e.v + N) (hN' : 0 ≤ f.v + N) (h : e.rp N = f.rp N) (hm : e.m = f.m) : e = f := by
  have h0 : Sk.rp e.u e.v N = Sk.rp f.u f.v N := h
  have p1 : Pln (Sk.rp e.u e.v N) (-N) e.u e.v := by
    have := pln_scale (s := e.u) (l := -N) (k := (e.v + N).toNat) (u' := e.u) (v' := e.v) (by rw [show -N + ((e.v + N).toNat : Int) = e.v by omega]; exact pl_pln he)
    exact this
  have p2 : Pln (Sk.rp f.u f.v N) (-N) f.u f.v := by
    have := pln_scale (s := f.u) (l := -N) (k := (f.v + N).toNat) (u' := f.u) (v' := f.v) (by rw [show -N + ((f.v + N).toNat : Int) = f.v by omega]; exact pl_pln hf)
    exact this
  rw [h0] at p1
  obtain ⟨h1, h2⟩ := pln_uniq p1 p2
  exact El.ext' h1 h2 hm
theorem pln_fn (u v : Int) : ∃ p : Int × Int, Pln u v p.1 p.2 := let ⟨a, b, h⟩ := pln_ex u v; ⟨(a, b), h⟩
noncomputable def plainE (e : El) : El := ⟨(Classical.choose (pln_fn e.u e.v)).1, (Classical.choose (pln_fn e.u e.v)).2, e.m⟩
theorem plainE_pln (e : El) : Pln e.u e.v (plainE e).u (plainE e).v := Classical.choose_spec (pln_fn e.u e.v)
theorem plainE_of {u v m u' v' : Int} (h : Pln u v u' v') : plainE ⟨u, v, m⟩ = ⟨u', v', m⟩ := by
  obtain ⟨h1, h2⟩ := pln_uniq (plainE_pln ⟨u, v, m⟩) h
  exact El.ext' h1 h2 rfl
theorem plainE_pl (e : El) : (plainE e).pl := pln_pl (plainE_pln e)
theorem plainE_id {e : El} (h : e.pl) : plainE e = e := plainE_of (m := e.m) (pl_pln h)
theorem plainE_rp {e : El} {N : Int} (h : 0 ≤ e.v + N) : (plainE e).rp N = e.rp N := pln_rp (plainE_pln e) h
/-- the lower of two places -/
def loI (a b : Int) : Int := if a ≤ b then a else b
noncomputable def mulE (e f : El) : El := plainE ⟨tot e.u e.v f.u (f.v + e.m) (loI e.v (f.v + e.m)), loI e.v (f.v + e.m), e.m + f.m⟩
noncomputable def invE (e : El) : El := plainE ⟨-e.u, e.v - e.m, -e.m⟩
theorem loI_le (a b : Int) : loI a b ≤ a ∧ loI a b ≤ b ∧ (loI a b = a ∨ loI a b = b) := by unfold loI; split <;> omega
theorem tot_rp {u v x y l N : Int} (hv : l ≤ v) (hy : l ≤ y) (hN : 0 ≤ l + N) : rp (tot u v x y l) l N = rp u v N + rp x y N := by
  unfold rp tot
  rw [Int.add_mul, Int.mul_assoc, Int.mul_assoc, ← Int.pow_add, ← Int.pow_add, show (v - l).toNat + (l + N).toNat = (v + N).toNat by omega, show (y - l).toNat + (l + N).toNat = (y + N).toNat by omega]
theorem mulE_pl (e f : El) : (mulE e f).pl := plainE_pl _
theorem invE_pl (e : El) : (invE e).pl := plainE_pl _
theorem mulE_rp {e f : El} {N : Int} (h : 0 ≤ e.v + N) (h' : 0 ≤ f.v + e.m + N) : (mulE e f).rp N = e.rp N + f.rp (N + e.m) := by
  obtain ⟨h1, h2, h3⟩ := loI_le e.v (f.v + e.m)
  unfold mulE
  rw [plainE_rp (by show 0 ≤ loI _ _ + N; omega)]
  refine (tot_rp h1 h2 (by omega)).trans ?_
  show rp e.u e.v N + rp f.u (f.v + e.m) N = rp e.u e.v N + rp f.u f.v (N + e.m)
  congr 1
  unfold rp
  rw [show f.v + e.m + N = f.v + (N + e.m) by omega]
theorem mulE_m (e f : El) : (mulE e f).m = e.m + f.m := rfl
theorem invE_m (e : El) : (invE e).m = -e.m := rfl
theorem invE_rp {e : El} {N : Int} (h : 0 ≤ e.v - e.m + N) : (invE e).rp N = -e.rp (N - e.m) := by
  unfold invE
  rw [plainE_rp (by show 0 ≤ e.v - e.m + N; exact h)]
  show -e.u * 2 ^ (e.v - e.m + N).toNat = -(e.u * 2 ^ (e.v + (N - e.m)).toNat)
  rw [Int.neg_mul, show e.v - e.m + N = e.v + (N - e.m) by omega]
/-- the lowest place that a few elements and their factors want -/
theorem mulE_assoc (a b c : El) : mulE (mulE a b) c = mulE a (mulE b c) := by
  refine rp_inj (mulE_pl _ _) (mulE_pl _ _) ((mulE (mulE a b) c).v.natAbs + (mulE a (mulE b c)).v.natAbs + a.v.natAbs + b.v.natAbs + c.v.natAbs + a.m.natAbs + b.m.natAbs + (mulE a b).v.natAbs + (mulE b c).v.natAbs) (by omega) (by omega) ?_ ?_
  · generalize hN : (((mulE (mulE a b) c).v.natAbs + (mulE a (mulE b c)).v.natAbs + a.v.natAbs + b.v.natAbs + c.v.natAbs + a.m.natAbs + b.m.natAbs + (mulE a b).v.natAbs + (mulE b c).v.natAbs : Nat) : Int) = N
    simp only [Int.natCast_add] at hN
    rw [hN]
    have hm : (mulE a b).m = a.m + b.m := rfl
    rw [mulE_rp (e := mulE a b) (by omega) (by rw [hm]; omega), mulE_rp (e := a) (f := b) (by omega) (by omega), mulE_rp (e := a) (f := mulE b c) (by omega) (by omega), mulE_rp (e := b) (f := c) (by omega) (by omega), hm]
    rw [show N + (a.m + b.m) = N + a.m + b.m by omega]
    omega
  · rw [mulE_m, mulE_m, mulE_m, mulE_m]; omega
def oneE : El := ⟨0, 0, 0⟩
theorem oneE_pl : oneE.pl := .inl ⟨rfl, rfl⟩
theorem one_rp (N : Int) : oneE.rp N = 0 := rp_zero _ _
theorem mulE_inv (a : El) : mulE a (invE a) = oneE := by
  refine rp_inj (mulE_pl _ _) oneE_pl ((mulE a (invE a)).v.natAbs + a.v.natAbs + a.m.natAbs + (invE a).v.natAbs) (by omega) (by show 0 ≤ (0 : Int) + _; omega) ?_ (by rw [mulE_m, invE_m]; show a.m + -a.m = 0; omega)
  rw [one_rp, mulE_rp (by omega) (by omega), invE_rp (by omega), show ∀ N : Int, N + a.m - a.m = N by intro N; omega]
  omega
theorem inv_mulE (a : El) : mulE (invE a) a = oneE := by
  refine rp_inj (mulE_pl _ _) oneE_pl ((mulE (invE a) a).v.natAbs + a.v.natAbs + a.m.natAbs + (invE a).v.natAbs) (by omega) (by show 0 ≤ (0 : Int) + _; omega) ?_ (by rw [mulE_m, invE_m]; show -a.m + a.m = 0; omega)
  rw [one_rp, mulE_rp (by omega) (by rw [invE_m]; omega), invE_rp (by omega), invE_m, ← Int.sub_eq_add_neg]
  omega
theorem mulE_one {a : El} (h : a.pl) : mulE a oneE = a := by
  refine rp_inj (mulE_pl _ _) h ((mulE a oneE).v.natAbs + a.v.natAbs + a.m.natAbs) (by omega) (by omega) ?_ (by rw [mulE_m]; show a.m + 0 = a.m; omega)
  rw [mulE_rp (by omega) (by show 0 ≤ (0 : Int) + a.m + _; omega), one_rp]
  omega
theorem one_mulE {a : El} (h : a.pl) : mulE oneE a = a := by
  refine rp_inj (mulE_pl _ _) h ((mulE oneE a).v.natAbs + a.v.natAbs) (by omega) (by omega) ?_ (by rw [mulE_m]; show 0 + a.m = a.m; omega)
  rw [mulE_rp (by show 0 ≤ (0 : Int) + _; omega) (by show 0 ≤ a.v + (0 : Int) + _; omega), one_rp, Int.zero_add, show oneE.m = 0 from rfl, Int.add_zero]
/-- what turns a into the unit is its inverse -/
theorem inv_uniq {a b : El} (hb : b.pl) (h : mulE a b = oneE) : b = invE a := by
  have := congrArg (mulE (invE a)) h
  rw [← mulE_assoc, inv_mulE, one_mulE hb, mulE_one (invE_pl a)] at this
  exact this
theorem inv_mul (a b : El) : invE (mulE a b) = mulE (invE b) (invE a) := by
  refine (inv_uniq (mulE_pl _ _) ?_).symm
  rw [mulE_assoc, ← mulE_assoc b, mulE_inv, one_mulE (invE_pl a), mulE_inv]
end Sk
set_option Elab.async false
set_option linter.all false
set_option maxRecDepth 100000
set_option maxHeartbeats 1000000
set_option Elab.async false
set_option linter.all false
set_option maxRecDepth 100000
set_option maxHeartbeats 1000000
namespace Sk
open PySem L2 Evl
/-- what is wished of an error of class C, at H and behind -/
def Wsh (K : PySem.W.Frag) (ES : L2.St → XK) (σ : L2.St) (H : Hp) (C : Addr) : Prop := ∀ H2, Ex H H2 → ∀ d, ErrAt K C d H2 → ES σ (.ref C) (some d) H2
section
variable {K : PySem.W.Frag} {σ : L2.St} {H H' : Hp} {te tf tg : TE} {R R1 R2 R3 : VP} {ES : L2.St → XK} {WS : WP} {C : Addr}
theorem Wsh.ex (h : Wsh K ES σ H C) (e : Ex H H') : Wsh K ES σ H' C := fun H2 e2 => h H2 (e.trans e2)
/-- calls that may raise where the error is wished for -/
theorem er_xs1 {P : V → Hp → VP → WP → Prop} (h : ER te σ H R1) (m : Mono R1) (hE : ∀ C, WS C → Wsh K ES σ H C) (k : ∀ v H1, Ex H H1 → R1 v H1 → P v H1 R WS) : ER (tCallS (spX1 K P) ES (tCons te tNil)) σ H R := fun H0 e0 Q q =>
  ea_one h m H0 e0 _ fun vs H1 e ⟨v, hv, r⟩ => by
    subst hv
    exact ⟨v, R, WS, rfl, k v H1 (e0.trans e) r, fun w H2 e2 hw => q w H2 (e.trans e2) hw, fun C H2 e2 hC d hd => hE C hC H2 (e0.trans (e.trans e2)) d hd⟩
/-- .. and where it is wished for by a fixed E -/
theorem er_xc1 {P : V → Hp → VP → WP → Prop} {E : XK} (h : ER te σ H R1) (m : Mono R1) (hE : ∀ C, WS C → Wsh K (fun _ => E) σ H C) (k : ∀ v H1, Ex H H1 → R1 v H1 → P v H1 R WS) : ER (tCall (spX1 K P) [] E (tCons te tNil)) σ H R := fun H0 e0 Q q =>
  ea_one h m H0 e0 _ fun vs H1 e ⟨v, hv, r⟩ => by
    subst hv
    exact ⟨v, R, WS, rfl, k v H1 (e0.trans e) r, fun w H2 e2 hw => q w H2 (e.trans e2) hw, fun C H2 e2 hC d hd => hE C hC H2 (e0.trans (e.trans e2)) d hd⟩
theorem er_xc2 {P : V → V → Hp → VP → WP → Prop} {E : XK} (h : ER te σ H R1) (m : Mono R1) (h' : ER tf σ H R2) (m' : Mono R2) (hE : ∀ C, WS C → Wsh K (fun _ => E) σ H C) (k : ∀ v v' H1, Ex H H1 → R1 v H1 → R2 v' H1 → P v v' H1 R WS) : ER (tCall (spX2 K P) [] E (tCons te (tCons tf tNil))) σ H R := fun H0 e0 Q q =>
  ea_two h m h' m' H0 e0 _ fun vs H1 e ⟨v, v', hv, r, r'⟩ => by
    subst hv
    exact ⟨v, v', R, WS, rfl, k v v' H1 (e0.trans e) r r', fun w H2 e2 hw => q w H2 (e.trans e2) hw, fun C H2 e2 hC d hd => hE C hC H2 (e0.trans (e.trans e2)) d hd⟩
variable {CL CN CB : Addr} {a b : Int}
/-- a number that stands for n -/
def NumR (K : PySem.W.Frag) (n : Int) : VP := fun v H => NumV K H v (toT n)
theorem numR (n : Int) : Mono (NumR K n) := numT.mono
/-- an allowed one -/
def FtR (K : PySem.W.Frag) (n : Int) : VP := fun v H => (toT n).fits ∧ NumV K H v (toT n)
theorem er_addE {E : XK} (h : ER te σ H (NumR K a)) (h' : ER tf σ H (NumR K b)) (ha : Sz a 600 42) (hb : Sz b 600 42) (hE : ¬ (toT (a + b)).fits → Wsh K (fun _ => E) σ H CL) : ER (tCall (sp_add K CL) [] E (tCons te (tCons tf tNil))) σ H (FtR K (a + b)) :=
  er_xc2 (WS := fun C => C = CL ∧ ¬ (toT (a + b)).fits) h (numR a) h' (numR b) (fun C hC => by rw [hC.1]; exact hE hC.2) fun v w H1 e1 g1 g2 => pAdd_ft g1 g2 ha hb
theorem ft_num {n : Int} (h : ER te σ H (FtR K n)) : ER te σ H (NumR K n) := h.imp fun v H1 e1 g => g.2
end
end Sk
set_option Elab.async false
set_option linter.all false
set_option maxRecDepth 100000
set_option maxHeartbeats 1000000
namespace Sk
open PySem L2 Evl
/-- an element in a new tuple -/
def ElH (K : PySem.W.Frag) (u v m : Int) : VP := fun x H => ∃ q a b c, x = .ref q ∧ H q = some (.tup [a, b, c]) ∧ NumV K H a (toT u) ∧ NumV K H b (toT v) ∧ NumV K H c (toT m)
theorem ElH.el {K : PySem.W.Frag} {u v m : Int} {x : V} {H : Hp} (h : ElH K u v m x H) : ElV K u v m x H := let ⟨q, a, b, c, h0, h1, h2⟩ := h; ⟨q, a, b, c, h0, st_of h1, h2⟩
theorem elH {K : PySem.W.Frag} (u v m : Int) : Mono (ElH K u v m) := fun x H H' e ⟨q, a, b, c, h0, h1, h2, h3, h4⟩ => ⟨q, a, b, c, h0, e q _ h1, h2.ex e, h3.ex e, h4.ex e⟩
theorem three_items {K : PySem.W.Frag} {H : Hp} {a b c : V} {u v m : Int} (h1 : NumV K H a (toT u)) (h2 : NumV K H b (toT v)) (h3 : NumV K H c (toT m)) : ItemsR (NumR K) [u, v, m] [a, b, c] H := by
  refine ⟨rfl, fun i y n hy hn => ?_⟩
  match i with
  | 0 => cases hy; cases hn; exact h1
  | 1 => cases hy; cases hn; exact h2
  | 2 => cases hy; cases hn; exact h3
  | i + 3 => cases hy
section
variable {K : PySem.W.Frag} {u v m : Int}
theorem elV_dp {x : V} {H : Hp} (h : ElV K u v m x H) : Dp K H x (.tuple [(toT u).data, (toT v).data, (toT m).data]) := by
  obtain ⟨q, a, b, c, rfl, hq, h1, h2, h3⟩ := h
  exact .tup hq (.cons h1 (.cons h2 (.cons h3 .nil)))
theorem el_lay (u v m : Int) : (PyData.tuple [(toT u).data, (toT v).data, (toT m).data]).canLay0 = true := by
  rw [PyData.canLay0, PyData.canLayAll0, PyData.canLayAll0, PyData.canLayAll0, data_lay, data_lay, data_lay]
  rfl
end
end Sk
set_option Elab.async false
set_option linter.all false
set_option maxRecDepth 100000
set_option Elab.async false
set_option linter.all false
set_option maxRecDepth 100000
set_option maxHeartbeats 2000000
namespace L2
open PySem PySem.Spec PyProof.Rows
theorem Cx.Ok.xe {X : Cx} (ok : X.Ok) (xe : Value → Shared → Prop) : ({ X with xe := xe } : Cx).Ok :=
  ⟨ok.mod, ok.kind, ok.glob, ok.blt, ok.above, ok.inj, ok.has, ok.cab, ok.hd, ok.frames, ok.stk, ok.exf, ok.bs, ok.bsz, ok.noex, ok.exfs, ok.funs, ok.frf⟩
theorem Inv.xe {X : Cx} {pins : List (Addr × Obj)} {σ : St} {H : Hp} {s : Shared} (I : Inv X pins σ H s) (xe : Value → Shared → Prop) : Inv ({ X with xe := xe } : Cx) pins σ H s :=
  ⟨Cx.Ok.xe I.ok xe, I.os, I.bare, I.base, I.loc, I.cell, I.free, I.freeC, I.pin, I.hok, I.len⟩
theorem Inv.unxe {X : Cx} {pins : List (Addr × Obj)} {σ : St} {H : Hp} {s : Shared} {xe : Value → Shared → Prop} (I : Inv ({ X with xe := xe } : Cx) pins σ H s) (ok : X.Ok) : Inv X pins σ H s :=
  ⟨ok, I.os, I.bare, I.base, I.loc, I.cell, I.free, I.freeC, I.pin, I.hok, I.len⟩
/-- what the end of a comprehension's block is to reach, errors too: its frame is the def's -/
def endPost (M : Model) (A : Around) (E : Value → Shared → Prop) (use : Option (Value → Sem Unit)) (Q : Value → Shared → Prop) (acc : Value) (C : Addr) (L : Option Addr) (r : Result) (s' : Shared) : Prop :=
  match r, use with
  | .ok _, none => ∃ m, s'.heap.Ns C m ∧ ∀ h', Heap.SameBut C s'.heap h' → Q acc { s' with heap := h' }
  | .ok _, some u => wpAny M A (u acc) (fun _ s'' => ∃ m, s''.heap.Ns C m ∧ ∀ h', Heap.SameBut C s''.heap h' → Q .none { s'' with heap := h' }) E s'
  | .error x, _ => ∃ m, s'.heap.Ns C m ∧ ∀ h', Heap.SameBut C s'.heap h' → ∀ cenv : Env, cenv.locals = C → cenv.frame = L → wpAny M A (PySem.passOn "comprehension.variables-let-go" x cenv : Sem Value) (fun _ _ => False) E { s' with heap := h' }
section
variable {M : Model} {A : Around} {E : Value → Shared → Prop} {s : Shared} {env : Env}
open Sem (wp) in
theorem comp_ends {e : Expr} {scope : Scope} {pos : Pos} {newAcc first : Sem Value} {g : Comprehension} {gs : List Comprehension} {cl : List (Str × Addr)} {use : Option (Value → Sem Unit)}
    {Q : Value → Shared → Prop}
    (hcl : clausesOf e = g :: gs) (hs : ∀ x, foldedSetIterable g.iter env x = pure x) (hclos : closureFor scope env = pure cl)
    (hkind : scope.kind = .function) (hnames : ∀ x ∈ scope.names, x.2 = .local → scope.names.lookup x.1 = some .local)
    (h : wpAny M A first (fun x s₁ => wpAny M A (pyIter x) (fun it s₂ => wpAny M A newAcc (fun acc s₃ =>
      wpAny M A (newFunctionEnv scope env.globals cl [] env.qual none .none (some env)) (fun cenv s₄ =>
        codeAny M A (.compStart e 0 it acc { cenv with scope := relabel scope env }) (endPost M A E use Q acc cenv.locals cenv.frame) s₄) E s₃) E s₂) E s₁) E s) :
    wpAny M A (comprehension e scope env pos newAcc false first use) Q E s := by
  unfold comprehension
  rw [hclos, hcl]
  refine wpAny_bind (wpAny_mono h (fun x s₁ h₁ => wpAny_bind (wpAny_standAt (wpAny_bind (wpAny_of_eq (hs x) (wpAny_bind (wpAny_holding (wpAny_mono h₁ (fun it s₂ h₂ =>
    wpAny_standIf (wpAny_bind (wpAny_mono h₂ (fun acc s₃ h₃ => wpAny_bind (wpAny_pure (wpAny_bind (wpAny_mono h₃ (fun cenv s₄ h₄ => ?_) fun _ _ h' => h')))) fun _ _ h' => h')))
      fun _ _ h' => h'))))))) fun _ _ h' => h')
  dsimp only
  have hv : ∀ x ∈ (scope.names.filter fun x => (x.2 == .local || x.2 == .cell) && x.1 != (".0" : Str)).reverse, x.2 = .local →
      Env.kindOf { cenv with scope := relabel scope env } x.1 = some .local := fun x hx hl => lookup_relabel_local (hnames x (List.mem_filter.mp (List.mem_reverse.mp hx)).1 hl)
  have hv' : ∀ x ∈ (scope.names.filter fun x => (x.2 == .local || x.2 == .cell) && x.1 != (".0" : Str)).reverse.drop 1 ++ (scope.names.filter fun x => (x.2 == .local || x.2 == .cell) && x.1 != (".0" : Str)).reverse.take 1,
      x.2 = .local → Env.kindOf { cenv with scope := relabel scope env } x.1 = some .local := fun x hx hl => by
    rcases List.mem_append.mp hx with h1 | h1
    · exact hv x (List.mem_of_mem_drop h1) hl
    · exact hv x (List.mem_of_mem_take h1) hl
  refine wpAny_holding (wpAny_bind (wpAny_attempt (wpAny_holding (wpAny_run (codeAny_mono h₄ fun r s' hr => ?_)))))
  cases r with
  | ok f =>
    cases use with
    | none =>
      obtain ⟨m, hn, hr⟩ := hr
      exact wpAny_bind (wpAny_holding (wpAny_comp_letGo (cenv := { cenv with scope := relabel scope env }) hkind _ s' m hv hn fun h' m' _ hs' => wpAny_pure (hr h' hs')))
    | some u =>
      refine wpAny_bind (wpAny_rule (wpAny_bind (wpAny_holding (wpAny_mono hr (fun _ s'' hr' => ?_) fun _ _ h' => h'))))
      obtain ⟨m, hn, hr'⟩ := hr'
      exact wpAny_bind (wpAny_comp_letGo (cenv := { cenv with scope := relabel scope env }) hkind _ s'' m hv' hn fun h' m' _ hs' => wpAny_pure (hr' h' hs'))
  | error x =>
    have hr' : ∃ m, s'.heap.Ns cenv.locals m ∧ ∀ h', Heap.SameBut cenv.locals s'.heap h' → ∀ cenv' : Env, cenv'.locals = cenv.locals → cenv'.frame = cenv.frame → wpAny M A (PySem.passOn "comprehension.variables-let-go" x cenv' : Sem Value) (fun _ _ => False) E { s' with heap := h' } := by cases use <;> exact hr
    obtain ⟨m, hn, hr⟩ := hr'
    exact wpAny_bind (wpAny_holding (wpAny_comp_letGo (cenv := { cenv with scope := relabel scope env }) hkind _ s' m hv hn fun h' m' _ hs' => wpAny_mono (hr h' hs' _ rfl rfl) (fun _ _ f => f.elim) fun _ _ y => y))
end
section
variable {X : Cx} {pins : List (Addr × Obj)} {σ : St} {H : Hp} {s s' : Shared} {W : WX}
/-- an exception over a ground of ours -/
theorem XE_of_sky {a : Addr} {B : Heap} {H' : Hp} {cls : Value} {d : Option Addr} (I : Inv X pins σ H s) (sky : Sky B X.stack a (Zc cls d) X.env.locals s'.heap) (st : B.StaysIn s'.heap) (hok : HOk X.prog X.w H' B)
    (ub : UB (frs X.stack) H H' s.heap B s'.heap) (na : H' a = none) (os : s'.os = s.os) (ag : AllBare s'.gens) (hW : W cls d σ H') : XE X W (.ref a) s' := by
  obtain ⟨G, g1, g2⟩ := restrict s'.heap fun b => (B.get? b).isSome || decide (b ∈ frs X.stack)
  have gB : ∀ b o, B.get? b = some o → G.get? b = some o := fun b o e => by
    rw [g1 b (by simp [e])]
    exact st b o e
  have gF : ∀ b, b ∈ frs X.stack → G.get? b = s'.heap.get? b := fun b hb => g1 b (by simp [hb])
  have og : ∀ b o, G.get? b = some o → s'.heap.get? b = some o ∧ ((B.get? b).isSome = true ∨ b ∈ frs X.stack) := fun b o e => by
    cases q : ((B.get? b).isSome || decide (b ∈ frs X.stack)) with
    | false => rw [g2 b q] at e; cases e
    | true =>
      rw [g1 b q] at e
      exact ⟨e, by simpa [Bool.or_eq_true] using q⟩
  refine ⟨a, B, { s with heap := G, gens := s'.gens, drawn := s'.drawn, toks := s'.toks }, pins, σ, H', cls, d, rfl, ?_, fun b o e hb => ?_, Heap.UpToSlots.of_keeps fun b o e => (og b o e).1, sky, na, os, ag, hW⟩
  · refine I.call (ch := []) ⟨fun b o e n hb _ => gB b o (ub.keep b o e n hb), fun b o e n hb _ => ?_, fun b o e n _ => ub.free b o e n, fun b o e _ => ?_, ub.tups, ub.frzs, ub.tbls⟩ (hok.kept gB) ag (fun _ z => nomatch z)
    · obtain ⟨sl, q⟩ := ub.slot b o e hb
      exact ⟨sl, by rw [gF b hb]; exact q⟩
    · by_cases hb : b ∈ frs X.stack
      · obtain ⟨sl, q⟩ := ub.slot b o e hb
        exact ⟨_, by rw [gF b hb]; exact q⟩
      · obtain ⟨o', q⟩ := ub.there b o e hb
        exact ⟨o', gB b o' q⟩
  · obtain ⟨e', h⟩ := og b o e
    rcases h with h | h
    · obtain ⟨o', q⟩ := Option.isSome_iff_exists.mp h
      have z := st b o' q
      rw [e'] at z; cases z
      exact q
    · exact absurd h hb
end
/-- an exception of a call within the block -/
def InBlk (Y : Cx) (W : WX) (u : Value) (s' : Shared) : Prop :=
  ∃ (pins : List (Addr × Obj)) (σ : St) (H : Hp) (s : Shared) (E : XK), Inv Y pins σ H s ∧ CX Y.prog Y.w Y.stack H s E u s' ∧ ∀ cls d H', E cls d H' → W cls d σ H'
abbrev Cx.blkE (X : Cx) (s : Shared) (H : Hp) (scope : Scope) (cenv : Env) (fp : List Addr) (xe : Value → Shared → Prop) : Cx := { X.blk s H scope cenv fp with xe := xe }
section
variable {X : Cx}
def tLcE (wi : TI) (g : TG) (tt : TT) (te : WX → TE) (W : WX) (vs : List Nat) : TE := fun σ H Q => tLc wi g tt (te fun cls d _ H' => W cls d σ H') vs σ H Q
/-- the block lets an exception out: noted, the block's variables let go, in the air of the def -/
theorem blk_out {pins : List (Addr × Obj)} {σ : St} {H3 : Hp} {s3 : Shared} {scope : Scope} {cl : List (Str × Addr)} {C : Addr} {fp : List Addr} {W : WX} {use : Option (Value → Sem Unit)} {Qf : Value → Shared → Prop} {acc : Value} {u : Value} {s' : Shared}
    (hst : X.stack = X.env :: X.outer) (hf : X.env.frame = some X.env.locals) (tk : Takes X W) (I3 : Inv X pins σ H3 s3) (hC : C = s3.heap.objs.size) (f3 : ∀ b ∈ fp, FpOk X pins H3 b ∧ b < s3.heap.objs.size)
    (xb : InBlk (X.blk s3 H3 scope (compEnvC scope cl C X.env) fp) (fun cls d _ H' => W cls d σ H') u s') :
    notedBy (model X.prog X.w) X.A (compEnvC scope cl C X.env) (fun e s'' => endPost (model X.prog X.w) X.A X.xe use Qf acc C X.env.frame (.error e) s'') u s' := by
  obtain ⟨pb, σb, Hb, sb, E, Ib, c, hW⟩ := xb
  obtain ⟨a, B, H', cls, d, rfl, fl, hok, ub, na, os, ag, hE⟩ := c
  have hfr : X.A.frames = some (X.env :: X.outer) := by rw [I3.ok.frames, hst]
  have hCn : Hb C = none := Ib.free
  have fC : FpOk X pins Hb C := I3.fpOk (Nat.le_of_eq hC.symm) hCn
  have hCs : C ∉ frs X.stack := fun hm => by
    rcases List.mem_cons.mp (I3.stkSub C hm) with z | z
    · exact fC.2.1 z
    · exact fC.2.2.1 z
  obtain ⟨mC, hnC, _⟩ := Ib.loc
  have hnC : sb.heap.Ns C mC := hnC
  obtain ⟨oC, esC, epC, hoC, hdC, hrC⟩ := id hnC
  have hBC : B.get? C = some oC := ub.keep C oC hoC hCn hCs
  have hH'C : H' C = none := ub.free C oC hoC hCn
  -- the def's state at the call, the block's variables away
  have I7 : Inv X pins σ Hb sb := I3.call' (ch := fp) Ib.os Ib.base Ib.hok Ib.bare fun b hb => ⟨(f3 b hb).1.2.2.2.1, (f3 b hb).1.2.1, (f3 b hb).1.2.2.2.2.1, (f3 b hb).1.2.2.2.2.2⟩
  obtain ⟨G, g1, g2⟩ := restrict sb.heap fun b => !decide (b = C)
  obtain ⟨B', b1, b2⟩ := restrict B fun b => !decide (b = C)
  have g1 : ∀ b, b ≠ C → G.get? b = sb.heap.get? b := fun b hb => g1 b (by simp [hb])
  have g2 : G.get? C = none := g2 C (by simp)
  have b1 : ∀ b, b ≠ C → B'.get? b = B.get? b := fun b hb => b1 b (by simp [hb])
  have b2 : B'.get? C = none := b2 C (by simp)
  have bB : ∀ b o, B'.get? b = some o → B.get? b = some o ∧ b ≠ C := fun b o e => by
    by_cases hb : b = C
    · rw [hb, b2] at e; cases e
    · exact ⟨(b1 b hb).symm.trans e, hb⟩
  have gB : ∀ b o, G.get? b = some o → sb.heap.get? b = some o ∧ b ≠ C := fun b o e => by
    by_cases hb : b = C
    · rw [hb, g2] at e; cases e
    · exact ⟨(g1 b hb).symm.trans e, hb⟩
  have I8 : Inv X pins σ Hb { sb with heap := G } := I7.turned (t' := sb.toks) (it := C) (fun b o hb e => (g1 b hb).trans e) fC.1 fC.2.1 fC.2.2.2.1 fC.2.2.2.2.1 fC.2.2.2.2.2
  have hok' : HOk X.prog X.w H' B' := fun b o q => (hok b o q).stay (fun c v hc r => by
    refine (b1 c fun z => ?_).trans r
    subst z
    rcases hc with hc | hc
    · rw [← hc, hH'C] at q; cases q
    · rw [hH'C] at hc; cases hc) (fun _ r => r) fun _ _ r => r
  have fl : HandSPX.FlyingZ B X.stack a (Zc cls d) s'.heap := fl
  rw [hst] at fl
  have nst : B.StaysIn s'.heap := fl.1
  show wpAny (model X.prog X.w) X.A (noteFrame (.ref a) X.env) _ _ _
  refine HandSPX.looks_onZ Zc.steady hfr hf fl fun h1 hh1 up1 => ?_
  obtain ⟨k1, k2, k3, oe, vs, T, oT, ts, he, hz, hd, ht1, hnT, hTe, hT, hdT, ht3⟩ := id hh1
  have hC1 : h1.get? C = some oC := k1 C oC hBC
  have aC : a ≠ C := fun z => by rw [z, hC1] at he; cases he; rw [hdC] at hd; cases hd
  have TC : T ≠ C := fun z => by rw [z, hC1] at hT; cases hT; rw [hdC] at hdT; cases hdT
  refine ⟨mC, ⟨oC, esC, epC, hC1, hdC, hrC⟩, fun h2 sb2 cenv _ hcf => ?_⟩
  have at2 : ∀ b, b ≠ C → h2.get? b = h1.get? b := fun b hb => sb2.2 b hb
  have frC : ∀ L ∈ frs (X.env :: X.outer), L ≠ C := fun L hL z => hCs (by rw [hst]; exact z ▸ hL)
  have held2 : HandSPX.HeldZ B' (X.env :: X.outer) a (Zc cls d) X.env.locals h2 := by
    refine ⟨fun b o e => (at2 b (bB b o e).2).trans (k1 b o (bB b o e).1), ?_, ?_, oe, vs, T, oT, ts, (at2 a aC).trans he, hz, hd, ht1, ?_, hTe, (at2 T TC).trans hT, hdT, ht3⟩
    · exact (b1 a aC).trans k2
    · have fr1 : h1.FunFrames B' (X.env :: X.outer) := funFrames_none k3 fun L hL => by
        rw [b1 L (frC L hL)]
        exact (k3.mem hL).1
      have : ∀ (l : List Env), (∀ L ∈ frs l, L ≠ C) → h1.FunFrames B' l → h2.FunFrames B' l := by
        intro l
        induction l with
        | nil => intro _ _; trivial
        | cons env l ih =>
          rintro hl ⟨q1, ⟨L, o, q2, q3, q4, q5⟩, q6⟩
          exact ⟨q1, ⟨L, o, q2, q3, (at2 L (hl L (List.mem_filterMap.mpr ⟨env, List.mem_cons_self, q2⟩))).trans q4, q5⟩, ih (fun L hL => hl L (by
            obtain ⟨e, he, q⟩ := List.mem_filterMap.mp hL
            exact List.mem_filterMap.mpr ⟨e, List.mem_cons_of_mem _ he, q⟩)) q6⟩
      exact this _ frC fr1
    · exact (b1 T TC).trans hnT
  unfold PySem.passOn
  rw [hcf, hf]
  obtain ⟨_, _, _, oe2, vs2, T2, oT2, ts2, he2, hz2, hd2, ht2, _⟩ := id held2
  refine wpAny_bind (wpAny_field he2 hd2 ht2 ?_)
  rw [if_neg (show ¬ ((Value.ref T2 == Value.none) = true) from by simp)]
  refine wpAny_bind (HandSPX.setFlight_onZ held2 fun h3 hh3 up3 => wpAny_throw (tk _ _ ?_))
  have keep3 : ∀ b o, b ≠ C → (∀ vs, o.data ≠ .fields vs) → s'.heap.get? b = some o → ∃ sl, h3.get? b = some { o with slots := sl } := fun b o hb hnf e => by
    obtain ⟨sl1, e1⟩ := up1 b o e hnf
    obtain ⟨sl3, e3⟩ := up3 b _ ((at2 b hb).trans e1) hnf
    exact ⟨sl3, e3⟩
  refine XE_of_sky (B := B') (H' := H') (cls := cls) (d := d) I8 (.inr (.inr (by rw [hst]; exact hh3))) hh3.1 hok' ⟨fun b o e n hb => ?_, fun b o e hb => ?_, fun b o e n => ub.free b o (gB b o e).1 n, fun b o e hb => ?_, ub.tups, ub.frzs, ub.tbls⟩ na os ag (hW _ _ _ hE)
  · exact (b1 b (gB b o e).2).trans (ub.keep b o (gB b o e).1 n hb)
  · obtain ⟨sl, q⟩ := ub.slot b o (gB b o e).1 hb
    obtain ⟨_, o0, e0, hnf⟩ := I7.stack.mem hb
    rw [(gB b o e).1] at e0; cases e0
    obtain ⟨sl3, q3⟩ := keep3 b { o with slots := sl } (gB b o e).2 hnf q
    exact ⟨sl3, q3⟩
  · obtain ⟨o', q⟩ := ub.there b o (gB b o e).1 hb
    exact ⟨o', (b1 b (gB b o e).2).trans q⟩
theorem lc_coreE {pins : List (Addr × Obj)} {s : Shared} {σ : St} {H : Hp} {Q : VK} {elt tg iter : Expr} {ifs : List Expr} {scope : Scope} {own : List (Str × Nat)} {pos pos' : Pos} {wi : TI} {g : TG} {tt : TT} {te : WX → TE} {W : WX} {use : Option (Value → Sem Unit)} {Qf : Value → Shared → Prop}
    (hst : X.stack = X.env :: X.outer) (hf : X.env.frame = some X.env.locals) (tk : Takes X W)
    (hc : X.calm = true) (hN : X.N.Nodup) (I : Inv X pins σ H s) (hi : PI X tg iter wi) (ok : BlkOk X.N X.env.scope scope own)
    (hg : ∀ (s : Shared) (H : Hp) (C : Addr) (cl : List (Str × Addr)) (fp : List Addr), PG (X.blk s H scope (compEnvC scope cl C X.env) fp) tg g) (ht : ∀ (s : Shared) (H : Hp) (C : Addr) (cl : List (Str × Addr)) (fp : List Addr), PTs (X.blk s H scope (compEnvC scope cl C X.env) fp) ifs tt)
    (he : ∀ (s : Shared) (H : Hp) (C : Addr) (cl : List (Str × Addr)) (fp : List Addr) (xe : Value → Shared → Prop) (W : WX), (∀ σ, PassesAt (CX X.prog X.w) (Cx.blkE X s H scope (compEnvC scope cl C X.env) fp xe) σ (WE W σ)) → PE (Cx.blkE X s H scope (compEnvC scope cl C X.env) fp xe) elt (te W)) (hs : ∀ x, foldedSetIterable iter X.env x = pure x)
    (h : tLcE wi g tt te W (own.map (·.2)) σ H Q)
    (hRR : ∀ D C s' m H', Inv X pins σ H' s' → Q (.ref D) H' → s'.heap.Ns C m → FpOk X pins H' C → endPost (model X.prog X.w) X.A X.xe use Qf (.ref D) C X.env.frame (.ok .next) s') :
    wpAny (model X.prog X.w) X.A (comprehension (.ListComp elt [⟨tg, iter, ifs, 0⟩] scope pos) scope X.env pos' (newList []) false (eval iter X.env) use) Qf X.xe s := by
  have hfree : ∀ y ∈ scope.names, y.2 = .free → ∃ c, X.env.cells.lookup y.1 = some c := fun y hy e => by
    rcases ok.free y hy e with k | k
    · exact I.ok.has _ (.inl k)
    · exact I.ok.has _ (.inr k)
  have h : tLc wi g tt (te fun cls d _ H' => W cls d σ H') (own.map (·.2)) σ H Q := h
  refine comp_ends (use := use) rfl hs (closure_ok hfree) ok.kind (fun y hy e => by rw [ok.uniq y hy, e])
    (thn (hi.run pins s σ H _ I h) fun xv s1 hx => thn hx fun itv s2 h2 => ?_)
  obtain ⟨it, fp, tn, J, H2, e, I2, T, st2, f2, q⟩ := h2
  subst e
  refine wpAny_newObj_type (newEnv_comp ?_) (by show 0 ≤ sizeLine; decide)
  generalize hD : s2.heap.objs.size = D
  have hDn : H2 D = none := I2.hok.fresh (Nat.le_of_eq hD)
  obtain ⟨Wm, ⟨m0, w0⟩, turn⟩ := q D hDn
  generalize hs3 : ({ s2 with heap := s2.heap.push { cls := .type "list", data := .seq ([] : List Value).toArray } } : Shared) = s3
  have I3 : Inv X pins σ (upd H2 D (.lst [])) s3 := by
    rw [← hs3]
    refine I2.laid (t' := s2.toks) (fun b o e => Heap.get?_push_of_some _ e) (Nat.le_of_eq hD) ⟨Nat.zero_le _, [], 0, .nil, ?_⟩
    rw [← hD]
    exact Heap.get?_push_size _ rfl
  have h3 : s3.heap = s2.heap.push { cls := .type "list", data := .seq ([] : List Value).toArray } := by rw [← hs3]
  have sz : ∀ b ∈ fp, b < s2.heap.objs.size := fun b hb => by
    obtain ⟨o, e, _⟩ := T.obj _ _ st2 b hb
    exact Heap.lt_size e
  have f3 : ∀ b ∈ fp, FpOk X pins (upd H2 D (.lst [])) b ∧ b < s3.heap.objs.size := fun b hb => by
    have hlt := sz b hb
    refine ⟨⟨?_, (f2 b hb).2⟩, by rw [h3, Heap.size_push]; exact Nat.lt_succ_of_lt hlt⟩
    rw [upd_ne (by rw [← hD]; exact Nat.ne_of_lt hlt)]
    exact (f2 b hb).1
  have st3 : tn 0 s3.heap := T.keep _ _ _ st2 fun b _ o e => by rw [h3]; exact Heap.get?_push_of_some _ e
  have I4 := block_start I3 ok hN f3
  generalize hcl : cellsFrom (s3.heap.objs.size + 1) scope.names (cloFrom X.env.cells scope.names []) = cl at I4 ⊢
  have pg := hg s3 (upd H2 D (.lst [])) s3.heap.objs.size cl fp
  have pt := ht s3 (upd H2 D (.lst [])) s3.heap.objs.size cl fp
  show codeAny _ _ (.compStart (.ListComp elt [⟨tg, iter, ifs, 0⟩] scope pos) 0 (.ref it) (.ref D) (compEnvC scope cl s3.heap.objs.size X.env)) (endPost (model X.prog X.w) X.A X.xe use Qf (.ref D) s3.heap.objs.size X.env.frame) { s3 with heap := pushCells (s3.heap.push { cls := .type "dict", data := .dict #[] }) scope.names }
  have nfp : ∀ b ∈ fp, (upd H2 D (.lst [])) b = none := fun b hb => (f3 b hb).1.1
  generalize hH3 : upd H2 D (.lst []) = H3 at I3 I4 pg pt w0 nfp f3
  have pe := he s3 H3 s3.heap.objs.size cl fp (InBlk (X.blk s3 H3 scope (compEnvC scope cl s3.heap.objs.size X.env) fp) fun cls d _ H' => W cls d σ H') (fun cls d _ H' => W cls d σ H')
    fun σb pb Hb sb u sb' Ib c => ⟨pb, σb, Hb, sb, _, Inv.unxe Ib I4.ok, c, fun _ _ _ z => z⟩
  have err : ∀ (u : Value) (s' : Shared), InBlk (X.blk s3 H3 scope (compEnvC scope cl s3.heap.objs.size X.env) fp) (fun cls d _ H' => W cls d σ H') u s' →
      notedBy (model X.prog X.w) X.A (compEnvC scope cl s3.heap.objs.size X.env) (fun e s'' => endPost (model X.prog X.w) X.A X.xe use Qf (.ref D) s3.heap.objs.size X.env.frame (.error e) s'') u s' :=
    fun u s' xb => blk_out hst hf tk I3 rfl f3 xb
  generalize hce : compEnvC scope cl s3.heap.objs.size X.env = ce at I4 pg pt pe err ⊢
  have cL : ce.locals = s3.heap.objs.size := by subst hce; rfl
  generalize hs4 : ({ s3 with heap := pushCells (s3.heap.push { cls := .type "dict", data := .dict #[] }) scope.names } : Shared) = s4 at I4 ⊢
  have okB := I4.ok
  have st4 : tn 0 s4.heap := T.keep _ _ _ st3 fun b _ o e => by rw [← hs4]; exact pushCells_keeps _ _ _ _ (Heap.get?_push_of_some _ e)
  have stat : ∀ {σ' : St} {H' : Hp} {s' : Shared}, Inv (X.blk s3 H3 scope ce fp) [] σ' H' s' → (∀ b ∈ fp, H' b = none) → ∀ b ∈ fp, FpOk (X.blk s3 H3 scope ce fp) [] H' b := fun {σ' H' s'} I' hn b hb =>
    ⟨hn b hb, (I'.ok.exf b hb).1, I'.ok.exfs b hb, .inl hb, fun x c e => (I'.ok.exf b hb).2 x c e, fun p hp => absurd (show p ∈ ([] : List (Addr × Obj)) ++ [] from hp) (by simp)⟩
  have loop : codeAny (model X.prog X.w) X.A (.compLoop (.ListComp elt [⟨tg, iter, ifs, 0⟩] scope pos) 0 (.ref it) (.ref D) ce) (endPost (model X.prog X.w) X.A X.xe use Qf (.ref D) s3.heap.objs.size X.env.frame) s4 := by
    refine compLoop_any (fun n s' => ∃ i H', Inv (X.blk s3 H3 scope ce fp) [] (wipe σ (own.map (·.2))) H' s' ∧ tn i s'.heap ∧ (∀ b ∈ fp, H' b = none) ∧ Wm i n H') ?_ m0 ⟨0, H3, I4, st4, nfp, w0⟩
    rintro n s5 ⟨i, H5, I5, st5, n5, w5⟩
    rcases turn i n H5 w5 with ⟨stop, qq⟩ | ⟨go, Nx, hNx, step⟩
    · have td := T.done (X.blk s3 H3 scope ce fp) rfl rfl rfl hc i [] s5 _ H5 (fun _ _ => False) I5 (stat I5 n5) st5 stop
      refine thnF td fun r s6 ⟨hr, I6⟩ => ?_
      subst hr
      have I7 : Inv X pins σ H5 s6 := I3.call' (ch := fp) I6.os I6.base I6.hok I6.bare fun b hb => ⟨(f3 b hb).1.2.2.2.1, (f3 b hb).1.2.1, (f3 b hb).1.2.2.2.2.1, (f3 b hb).1.2.2.2.2.2⟩
      have nC : H5 s3.heap.objs.size = none := by
        have z : H5 ce.locals = none := I6.free
        rw [cL] at z
        exact z
      obtain ⟨m, hn, _⟩ := I6.loc
      have hn : s6.heap.Ns ce.locals m := hn
      rw [cL] at hn
      exact hRR D s3.heap.objs.size s6 m H5 I7 qq hn (I3.fpOk (Nat.le_refl _) nC)
    · have ti := T.item (X.blk s3 H3 scope ce fp) rfl rfl rfl hc i [] s5 _ H5 (fun _ _ => False) I5 (stat I5 n5) st5 go
      refine thnF ti fun r s6 ⟨u, hr, h6⟩ => ?_
      subst hr
      refine thnF h6 fun _ s7 ⟨x, H7, I7, r7, y7, st7, n7⟩ => ?_
      have I7' := I7.pinned (stat I7 n7) (T.obj _ _ st7)
      refine thnF (pg.run _ s7 _ H7 x u _ I7' r7 (step x H7 y7)) fun _ s8 ⟨σ8, H8, I8, hw8, q8⟩ => ?_
      refine thnF (pt.run _ s8 σ8 H8 _ I8 q8) fun b s9 ⟨H9, I9, q9⟩ => ?_
      have fin : ∀ {s' : Shared} {H' : Hp}, Inv (X.blk s3 H3 scope ce fp) ([] ++ pinsAt fp s7.heap) σ8 H' s' → Nx H' → ∃ m, m < n ∧ ∃ i H', Inv (X.blk s3 H3 scope ce fp) [] (wipe σ (own.map (·.2))) H' s' ∧ tn i s'.heap ∧ (∀ b ∈ fp, H' b = none) ∧ Wm i m H' := fun {s' H'} I' nx => by
        obtain ⟨m', hm, w'⟩ := hNx H' nx
        have pin' : ∀ b ∈ fp, ∀ o, s7.heap.get? b = some o → s'.heap.get? b = some o ∧ H' b = none := fun b hb o e =>
          let z := I'.pin (b, o) (List.mem_append_right _ (List.mem_append_right _ (mem_pinsAt hb e)))
          ⟨z.1, z.2.1⟩
        have hl : (wipe σ (own.map (·.2))).length = σ8.length := by rw [← hw8, wipe_length]
        refine ⟨m', hm, i + 1, H', (I'.unpinned (pins := [])).weak hl (fun j v e => ?_), T.keep _ _ _ st7 fun b hb o e => (pin' b hb o e).1, fun b hb => ?_, w'⟩
        · rw [← hw8] at e
          exact (wipe_some e).1
        · obtain ⟨o, e, _⟩ := T.obj _ _ st7 b hb
          exact (pin' b hb o e).2
      cases b with
      | false =>
        simp only [Bool.false_eq_true, if_false] at q9 ⊢
        exact fin I9 q9
      | true =>
        simp only [if_true] at q9 ⊢
        refine wpAny_mono (pe.run _ s9 σ8 H9 _ (Inv.xe I9 _) q9) (fun z s10 ⟨yv, H10, I10, r10, acc, hD10, hz10, nx⟩ => ?_) fun u s' xb => err u s' xb
        exact app_ok (X := X.blk s3 H3 scope ce fp) (Inv.unxe I10 okB) hD10 hz10 r10 fun s11 I11 => fin I11 nx
  exact codeAny_compStart_list loop (T.self X.A 0 _ _ _ st4 loop)
/-- as a value -/
theorem pe_lcE {elt tg iter : Expr} {ifs : List Expr} {scope : Scope} {own : List (Str × Nat)} {pos : Pos} {wi : TI} {g : TG} {tt : TT} {te : WX → TE} {W : WX} (hst : X.stack = X.env :: X.outer) (hf : X.env.frame = some X.env.locals) (tk : Takes X W)
    (hc : X.calm = true) (hN : X.N.Nodup) (hi : PI X tg iter wi) (ok : BlkOk X.N X.env.scope scope own)
    (hg : ∀ (s : Shared) (H : Hp) (C : Addr) (cl : List (Str × Addr)) (fp : List Addr), PG (X.blk s H scope (compEnvC scope cl C X.env) fp) tg g) (ht : ∀ (s : Shared) (H : Hp) (C : Addr) (cl : List (Str × Addr)) (fp : List Addr), PTs (X.blk s H scope (compEnvC scope cl C X.env) fp) ifs tt)
    (he : ∀ (s : Shared) (H : Hp) (C : Addr) (cl : List (Str × Addr)) (fp : List Addr) (xe : Value → Shared → Prop) (W : WX), (∀ σ, PassesAt (CX X.prog X.w) (Cx.blkE X s H scope (compEnvC scope cl C X.env) fp xe) σ (WE W σ)) → PE (Cx.blkE X s H scope (compEnvC scope cl C X.env) fp xe) elt (te W)) (hs : ∀ x, foldedSetIterable iter X.env x = pure x := by intro _; rfl) :
    PE X (.ListComp elt [⟨tg, iter, ifs, 0⟩] scope pos) (tLcE wi g tt te W (own.map (·.2))) := by
  refine ⟨fun pins s σ H Q I h => ?_⟩
  rw [eval_ListComp]
  refine lc_coreE hst hf tk hc hN I hi ok hg ht he hs h fun D C s' m H' I' q hn f => ⟨m, hn, fun h'' sb => ?_⟩
  obtain ⟨f0, f1, f2, f3, f4, f5⟩ := f
  exact ⟨.ref D, H', I'.turned (t' := s'.toks) (fun b o hb e => (sb.2 b hb).trans e) f0 f1 f3 f4 f5, rfl, q⟩
end
end L2
set_option Elab.async false
set_option linter.all false
set_option maxRecDepth 100000
set_option maxHeartbeats 1000000
namespace Sk
open PySem L2 Evl
theorem shR_pow {x : Int} {a b : Int} (h : a ≤ b) : ShR x (b - a) (x * 2 ^ (b - a).toNat) := by
  by_cases h0 : x = 0
  · subst h0; exact .inl ⟨rfl, Int.zero_mul _⟩
  · obtain ⟨c, n, rfl, hn, _⟩ := odd_part5 _ x (Nat.le_refl _) h0
    refine .inr ⟨c, n, rfl, hn, by omega, ?_⟩
    rw [show ((c : Int) + (b - a)).toNat = c + (b - a).toNat by omega, Int.pow_add, Int.mul_assoc, Int.mul_assoc, Int.mul_comm n]
theorem bd_one : Bd 1 2 1 1 1 := (bd_sz (s := 2) (by decide +kernel) (mg_small (by decide))).mono (Nat.le_refl _) (Nat.le_refl _) (by decide) (Nat.le_refl _)
theorem Bd.suc {q s w k g : Nat} (h : Bd (q : Int) s w k g) (hk : 1 ≤ k) : Bd ((q + 1 : Nat) : Int) (2 * (s + 2)) (w + 1) (k + 1) (g + 1) := by
  rw [Int.natCast_add]
  exact h.add bd_one (Nat.le_refl _) hk
/-- the places of x 2^d -/
theorem sh_places {x d W : Int} {s w k g s' : Nat} (h : ShR x d W) (hx : (toT x).size ≤ s' + 1) (mx : Mg x 1) (hd : Bd d s w k g) (hk : s' / 2 ≤ k) : ∀ z ∈ naf W 0, Bd (z.2 : Int) (2 * (s' + s)) (s' / 2 + w) (k + 1) (1 + g) := fun z hz => by
  obtain ⟨y, hy, e⟩ := shR_mem h z hz
  rw [e]
  exact (bd_place hx mx hy).add hd hk (Nat.le_refl _)
theorem sum_places {a b : Int} {s w k g : Nat} (ha : ∀ z ∈ naf a 0, Bd (z.2 : Int) s w k g) (hb : ∀ z ∈ naf b 0, Bd (z.2 : Int) s w k g) (hk : 1 ≤ k) : ∀ z ∈ naf (a + b) 0, Bd (z.2 : Int) (2 * (s + 2)) (w + 1) (k + 1) (g + 1) :=
  add_place a b (fun p => Bd (p : Int) (2 * (s + 2)) (w + 1) (k + 1) (g + 1)) (fun x hx => ⟨(ha x hx).mono (by omega) (by omega) (by omega) (by omega), (ha x hx).suc hk⟩) fun x hx => ⟨(hb x hx).mono (by omega) (by omega) (by omega) (by omega), (hb x hx).suc hk⟩
/-- a sum of two moved numbers -/
theorem mv_sum {u x v y : Int} (hu : (toT u).fits) (hx : (toT x).fits) (hd : Bd (y - v) 3000 450 152 3) (h : v ≤ y) :
    wt (u + x * 2 ^ (y - v).toNat) ≤ 300 ∧ (∀ z ∈ naf (u + x * 2 ^ (y - v).toNat) 0, Bd (z.2 : Int) 13200 601 154 5) ∧ PlOk (toT (x * 2 ^ (y - v).toNat)) := by
  have hsh := shR_pow (x := x) h
  have p := sh_places hsh (s' := 299) hx.1 (mg_of hx.2) hd (by decide)
  have wu := (bd_fits hu).wt
  have wx := (bd_fits hx).wt
  have ws := shR_wt hsh
  have wa := wt_add u (x * 2 ^ (y - v).toNat)
  refine ⟨by omega, fun z hz => (sum_places (s := 6598) (w := 600) (k := 153) (g := 4) (fun z hz => (bd_place (s := 299) hu.1 (mg_of hu.2) hz).mono (by decide) (by decide) (by decide) (by decide)) (fun z hz => (p z hz).mono (by decide) (by decide) (by decide) (by decide)) (by decide) z hz).mono (by decide) (by decide) (by decide) (by decide), ?_⟩
  refine ⟨toT_can _, Nat.le_trans (ht_of fun z hz => Nat.succ_le_succ ((p z hz).mg.ht (by decide))) (by decide), fun e he => ?_, by rw [lenT, ws]; omega, fun e he => ?_⟩
  · obtain ⟨z, hz, _, q⟩ := memT he
    rw [q]
    have := (p z hz).sz
    omega
  · obtain ⟨z, hz, _, q⟩ := memT he
    rw [q, lenT]
    have := (p z hz).wt
    omega
theorem lk_mv {W : Int} (hw : wt W ≤ 300) (h : ∀ z ∈ naf W 0, Bd (z.2 : Int) 13200 601 154 5) : Lk W :=
  lk_of hw (fun z hz => (h z hz).mono (Nat.le_refl _) (by decide) (by decide) (by decide)) (by decide) (by decide)
theorem lk_fits {n : Int} (h : (toT n).fits) : Lk n := lk_mv (Nat.le_trans (bd_fits h).wt (by decide)) fun z hz => (bd_place (s := 299) h.1 (mg_of h.2) hz).mono (by decide) (by decide) (by decide) (by decide)
theorem pl_fits {n : Int} (h : (toT n).fits) : PlOk (toT n) := (bd_fits h).pl' (by decide) (by decide) (by decide) (by decide)
theorem s2_fits {u v x y m : Int} (hu : (toT u).fits) (hv : (toT v).fits) (hx : (toT x).fits) (hy : (toT y).fits) (hm : (toT m).fits) : S2 u v x (y + m) := by
  have by1 : Bd (y + m) 1200 300 151 2 := (bd_fits hy).add (bd_fits hm) (Nat.le_refl _) (Nat.le_refl _)
  have d1 : Bd (y + m - v) 3000 450 152 3 := by1.sub (bd_fits hv) (Nat.le_refl _) (by decide)
  have d2 : Bd (v - (y + m)) 3000 450 152 3 := ((bd_fits hv).sub by1 (by decide) (Nat.le_refl _)).mono (by decide) (by decide) (by decide) (by decide)
  refine ⟨pl_fits hu, pl_fits hx, lk_fits hu, lk_fits hx, pl_fits hv, by1.pl' (by decide) (by decide) (by decide) (by decide), Nat.lt_of_le_of_lt hv.1 (by decide), Nat.lt_of_le_of_lt by1.sz (by decide), d1.pl' (by decide) (by decide) (by decide) (by decide), d2.pl' (by decide) (by decide) (by decide) (by decide), fun h => (mv_sum hu hx d1 h).2.2, fun h => (mv_sum hx hu d2 h).2.2, fun h => ?_, fun h => ?_⟩
  · obtain ⟨h1, h2, _⟩ := mv_sum hu hx d1 h
    exact lk_mv h1 h2
  · obtain ⟨h1, h2, _⟩ := mv_sum hx hu d2 h
    exact lk_mv h1 h2
theorem naf_offs' {x : Int} {z : Int × Nat} (h : z ∈ naf x 0) (i : Nat) : (z.1, z.2 + i) ∈ naf x i := by
  obtain ⟨y, hy, h1, h2⟩ := naf_offs (a := i) h
  have : y = (z.1, z.2 + i) := by
    obtain ⟨a, b⟩ := y
    have h1 : z.1 = a := h1
    have h2 : z.2 + i = b + 0 := h2
    rw [h1, h2, Nat.add_zero]
  rw [← this]
  exact hy
/-- the plain form of such a number can be looked at -/
theorem pln_szk {W l u' v' : Int} (h : Pln W l u' v') (hw : wt W ≤ 300) (hp : ∀ z ∈ naf W 0, Bd (z.2 : Int) 13200 601 154 5) (hl : Bd l 3000 450 152 3) : (toT u').szk ∧ (toT v').szk := by
  have z0 : (toT 0).szk := by rw [toT_eq, naf_zero] <;> exact ⟨by decide, by decide⟩
  rcases h with ⟨rfl, rfl, rfl⟩ | ⟨i, rfl, ho, rfl⟩
  · exact ⟨z0, z0⟩
  · have hi : Bd (i : Int) 13200 601 154 5 := hp (2 - u' % 4, i) (by
      rw [naf_shift, naf_odd ho, Nat.zero_add]
      exact List.mem_cons_self)
    have hv := hl.add hi (show 152 ≤ 154 by decide) (Nat.le_refl _)
    refine ⟨⟨?_, ?_⟩, ⟨by have := hv.sz; omega, Nat.lt_of_le_of_lt (hv.mg.ht (by decide)) (by decide)⟩⟩
    · have pw : ∀ z ∈ naf u' 0, Bd (z.2 : Int) 52800 1202 155 10 := fun z hz => by
        have hm : (z.1, z.2 + i) ∈ naf (2 ^ i * u') 0 := by
          rw [naf_shift, Nat.zero_add]
          have := naf_offs' hz i
          exact this
        have := (hp _ hm).sub hi (Nat.le_refl _) (Nat.le_refl _)
        rw [show (((z.2 + i : Nat) : Int) - (i : Int)) = (z.2 : Int) by omega] at this
        exact this
      have hw' : wt u' ≤ 300 := by
        have e : wt (2 ^ i * u') = wt u' := by rw [wt_mul_pow]
        omega
      have := size_sumP hw' fun z hz => (pw z hz).sz
      omega
    · have pw : ∀ z ∈ naf u' 0, (toT (z.2 : Int)).height ≤ 41 := fun z hz => by
        have hm : (z.1, z.2 + i) ∈ naf (2 ^ i * u') 0 := by
          rw [naf_shift, Nat.zero_add]
          exact naf_offs' hz i
        have := (hp _ hm).sub hi (Nat.le_refl _) (Nat.le_refl _)
        rw [show (((z.2 + i : Nat) : Int) - (i : Int)) = (z.2 : Int) by omega] at this
        exact this.mg.ht (by decide)
      exact Nat.lt_of_le_of_lt (ht_of fun z hz => Nat.succ_le_succ (pw z hz)) (by decide)
end Sk
set_option Elab.async false
set_option linter.all false
set_option maxRecDepth 100000
set_option maxHeartbeats 1000000
namespace Sk
open PySem L2 Evl
def ElE (K : PySem.W.Frag) (e : El) : VP := ElV K e.u e.v e.m
theorem elE {K : PySem.W.Frag} (e : El) : Mono (ElE K e) := elV _ _ _
def El.fit (e : El) : Prop := (toT e.u).fits ∧ (toT e.v).fits ∧ (toT e.m).fits
def El.szk (e : El) : Prop := (toT e.u).szk ∧ (toT e.v).szk ∧ (toT e.m).szk
/-- an allowed element that a function made -/
def FtE (K : PySem.W.Frag) (e : El) : VP := fun w H => e.fit ∧ ElH K e.u e.v e.m w H
theorem ftE {K : PySem.W.Frag} (e : El) : Mono (FtE K e) := fun w H H' x h => ⟨h.1, elH _ _ _ _ _ _ x h.2⟩
theorem FtE.el {K : PySem.W.Frag} {e : El} {w : V} {H : Hp} (h : FtE K e w H) : ElE K e w H := h.2.el
section
variable {K : PySem.W.Frag} {σ : L2.St} {H : Hp} {te tf : TE} {e f : El}
def El.data (e : El) : PyData := .tuple [(toT e.u).data, (toT e.v).data, (toT e.m).data]
theorem elE_dp {x : V} {H : Hp} (h : ElE K e x H) : Dp K H x e.data := elV_dp h
theorem el_data_lay (e : El) : e.data.canLay0 = true := el_lay _ _ _
theorem el_data_eqv (e f : El) [Decidable (e = f)] : e.data.eqv f.data = decide (e = f) := by
  unfold El.data
  simp only [PyData.eqv, PyData.eqvAll, Bool.and_true, data_eqv]
  rw [Bool.eq_iff_iff]
  simp only [Bool.and_eq_true, decide_eq_true_eq]
  exact ⟨fun ⟨h1, h2, h3⟩ => El.ext' (toT_inj h1) (toT_inj h2) (toT_inj h3), fun h => by rw [h]; exact ⟨rfl, rfl, rfl⟩⟩
theorem el_data_depth (h : e.fit) : e.data.depth ≤ 100 := by
  have d1 := data_depth (toT e.u)
  have d2 := data_depth (toT e.v)
  have d3 := data_depth (toT e.m)
  have := h.1.2; have := h.2.1.2; have := h.2.2.2
  unfold El.data
  rw [PyData.depth, PyData.depthAll, PyData.depthAll, PyData.depthAll, PyData.depthAll]
  omega
theorem ev_eqE [Decidable (e = f)] (h1 : ER te σ H (ElE K e)) (h2 : ER tf σ H (ElE K f)) (he : e.fit) : Ev (tOp (rEqN K) te tf) σ H (.bl (decide (e = f))) := fun H1 x Q q =>
  h1 H1 x _ fun v1 H2 e2 r1 => h2 H2 (x.trans e2) _ fun w H3 e3 r2 => ⟨_, _, elE_dp (elE e _ _ _ e3 r1), elE_dp r2, el_data_lay e, el_data_lay f, el_data_depth he, by rw [el_data_eqv]; exact q H3 (e2.trans e3)⟩
theorem ev_neE [Decidable (e = f)] (h1 : ER te σ H (ElE K e)) (h2 : ER tf σ H (ElE K f)) (he : e.fit) : Ev (tOp (rNeN K) te tf) σ H (.bl (!decide (e = f))) := fun H1 x Q q =>
  h1 H1 x _ fun v1 H2 e2 r1 => h2 H2 (x.trans e2) _ fun w H3 e3 r2 => ⟨_, _, elE_dp (elE e _ _ _ e3 r1), elE_dp r2, el_data_lay e, el_data_lay f, el_data_depth he, by rw [el_data_eqv]; exact q H3 (e2.trans e3)⟩
end
def pAllElX (K : PySem.W.Frag) (CL : Addr) : V → Hp → VP → WP → Prop := fun x H R W => ∃ e : El, ElE K e x H ∧ e.szk ∧ (e.fit → ∀ w H', ElH K e.u e.v e.m w H' → R w H') ∧ (¬ e.fit → W CL)
def sp_allowed_el (K : PySem.W.Frag) (CL : Addr) : Sp := spX1 K (pAllElX K CL)
def t_allowed_el (K : PySem.W.Frag) (a_TooLarge : Addr) (E : XK) : TS := (tRet (tThen (tLcE (iTup K (tVar 0)) (gName 1) tYes (fun V => (tCallS (sp_allowed K a_TooLarge) (WE V) (tCons (tVar 1) tNil))) (fun cls d _ H => E cls d H) [1]) (kTup K)))
theorem pure_allowed_el {K : PySem.W.Frag} {CL : Addr} {vs : List V} {H : Hp} {Q : VK} {E : XK} (h : sp_allowed_el K CL vs H Q E) : t_allowed_el K CL E { nx := fun _ H' => Q .non H', rt := Q } (start ["element", "number"] vs) H := by
  obtain ⟨x, R, W, rfl, ⟨⟨u, v, m⟩, ⟨q, a, b, c, rfl, hq, h1, h2, h3⟩, ⟨f1, f2, f3⟩, hR, hW⟩, k, kE⟩ := h
  have lc : ER (tLc (iTup K (tVar 0)) (gName 1) tYes (tCallS (sp_allowed K CL) (WE fun cls d _ H' => E cls d H') (tCons (tVar 1) tNil)) [1]) [some (.ref q), none] H (fun z H2 => ∃ p ys, z = .ref p ∧ H p = none ∧ H2 p = some (.lst ys) ∧ ItemsR (FtR K) [u, v, m] ys H2) :=
    er_lcIT (R1 := NumR K) (R2 := FtR K) (l := [u, v, m]) (er_ev (ev_var rfl) fun H2 e2 => ⟨q, [a, b, c], rfl, ex_t e2 hq, (three_items h1 h2 h3).ex (fun _ => numT.mono) e2⟩) (fun _ => numT.mono) (fun n v Ha Hb e g => ⟨g.1, numT _ _ _ e g.2⟩) (by show 3 < 100000; omega) fun i n z H2 hi hz e2 Qk kk => by
      have hs : (toT n).szk ∧ (¬ (toT n).fits → ¬ El.fit ⟨u, v, m⟩) := by
        rcases List.mem_cons.mp (List.mem_of_getElem? hi) with rfl | hm
        · exact ⟨f1, fun g x => g x.1⟩
        · rcases List.mem_cons.mp hm with rfl | hm
          · exact ⟨f2, fun g x => g x.2.1⟩
          · rw [List.mem_singleton.mp hm]
            exact ⟨f3, fun g x => g x.2.2⟩
      exact ⟨rfl, (er_xs1 (ES := WE fun cls d _ H' => E cls d H') (R1 := NumR K n) (WS := fun C => C = CL ∧ ¬ (toT n).fits) (R := FtR K n) (er_var rfl fun H5 e5 => NumV.ex hz e5) (numR n) (fun C hC H3 e3 d hd => kE C H3 (e2.trans e3) (by rw [hC.1]; exact hW (hs.2 hC.2)) d hd) fun w H5 e5 g => ⟨toT n, g, hs.1, fun hf w' H' g' => ⟨hf, g'⟩, fun hf => ⟨rfl, hf⟩⟩) H2 (Ex.refl _) _ kk⟩
  refine s_retR (er_tupleOf (te := tLcE _ _ _ _ _ _) (R := fun ys H' => ItemsR (FtR K) [u, v, m] ys H') (lc.imp fun z H3 e3 ⟨p, ys, hv, hp0, hp, hit⟩ => ⟨p, ys, hv, sq_of hp, hit⟩) (fun zs H1 H2 e h => h.ex (fun n v Ha Hb e g => ⟨g.1, g.2.ex e⟩) e)) fun w H6 e6 ⟨p, zs, hv, g1, g2⟩ => ?_
  obtain ⟨hl, hg⟩ := g2
  match zs, hl with
  | [a', b', c'], _ =>
    have r1 := hg 0 a' u rfl rfl
    have r2 := hg 1 b' v rfl rfl
    have r3 := hg 2 c' m rfl rfl
    exact k w H6 e6 (hR ⟨r1.1, r2.1, r3.1⟩ w H6 ⟨p, a', b', c', hv, g1, r1.2, r2.2, r3.2⟩)
def pPlainX (K : PySem.W.Frag) (CL : Addr) : V → Hp → VP → WP → Prop := fun x H R W => ∃ e : El, ElE K e x H ∧ Lk e.u ∧ PlOk (toT e.v) ∧ (plainE e).szk ∧ (∀ w H', FtE K (plainE e) w H' → R w H') ∧ (¬ (plainE e).fit → W CL)
def sp_plain_elX (K : PySem.W.Frag) (CL : Addr) : Sp := spX1 K (pPlainX K CL)
def t_plain_elX (K : PySem.W.Frag) (a_TooLarge : Addr) (E : XK) : TS := (tRet (tCall (sp_allowed_el K a_TooLarge) [] E (tCons (tCall (sp_bare_plain K) [] E0 (tCons (tVar 0) tNil)) tNil)))
theorem pure_plain_elX {K : PySem.W.Frag} {CL : Addr} {vs : List V} {H : Hp} {Q : VK} {E : XK} (h : sp_plain_elX K CL vs H Q E) : t_plain_elX K CL E { nx := fun _ H' => Q .non H', rt := Q } (start ["element"] vs) H := by
  obtain ⟨x, R, W, rfl, ⟨e, hx, hl, hp, hz, hR, hW⟩, k, kE⟩ := h
  exact x_call1 (R1 := ElE K (plainE e)) ((er_call1 (R := fun w H' => ∃ a b, Pln e.u e.v a b ∧ ElV K a b e.m w H') (er_var' rfl hx (elE e)) (elE e) fun w H5 e5 g => ⟨e.u, e.v, e.m, g, hl, hp, rfl⟩).imp fun w H5 e5 ⟨a, b, g1, g2⟩ => by
    obtain ⟨rfl, rfl⟩ := pln_uniq g1 (plainE_pln e)
    exact g2) (elE _) _ fun w H1 e1 g => ⟨R, W, ⟨plainE e, g, hz, fun hf w' H' g' => hR w' H' ⟨hf, g'⟩, hW⟩, fun w H2 e2 hw => k w H2 (e1.trans e2) hw, fun C H2 e2 hC => kE C H2 (e1.trans e2) hC⟩
def pMulX (K : PySem.W.Frag) (CL : Addr) : V → V → Hp → VP → WP → Prop := fun x y H R W => ∃ e f : El, ElE K e x H ∧ ElE K f y H ∧ e.fit ∧ f.fit ∧ (∀ w H', FtE K (mulE e f) w H' → R w H') ∧ (¬ (mulE e f).fit → W CL)
def sp_mul_el (K : PySem.W.Frag) (CL : Addr) : Sp := spX2 K (pMulX K CL)
def t_mul_el (K : PySem.W.Frag) (a_TooLarge : Addr) (E : XK) : TS := (tRet (tCall (sp_allowed_el K a_TooLarge) [] E (tCons (tCall (sp_bare_product K) [] E0 (tCons (tVar 0) (tCons (tVar 1) tNil))) tNil)))
theorem tot_lo {u v x y : Int} (hu : (toT u).fits) (hx : (toT x).fits) (d1 : Bd (y - v) 3000 450 152 3) (d2 : Bd (v - y) 3000 450 152 3) : wt (tot u v x y (loI v y)) ≤ 300 ∧ ∀ z ∈ naf (tot u v x y (loI v y)) 0, Bd (z.2 : Int) 13200 601 154 5 := by
  unfold loI
  split
  · have e : tot u v x y v = u + x * 2 ^ (y - v).toNat := by unfold tot; rw [show (v - v).toNat = 0 by omega, Int.pow_zero, Int.mul_one]
    rw [e]
    have := mv_sum hu hx d1 (by omega)
    exact ⟨this.1, this.2.1⟩
  · have e : tot u v x y y = x + u * 2 ^ (v - y).toNat := by unfold tot; rw [show (y - y).toNat = 0 by omega, Int.pow_zero, Int.mul_one, Int.add_comm]
    rw [e]
    have := mv_sum hx hu d2 (by omega)
    exact ⟨this.1, this.2.1⟩
theorem mulE_szk {e f : El} (he : e.fit) (hf : f.fit) : (mulE e f).szk := by
  obtain ⟨eu, ev, em⟩ := he
  obtain ⟨fu, fv, fm⟩ := hf
  have by1 : Bd (f.v + e.m) 1200 300 151 2 := (bd_fits fv).add (bd_fits em) (Nat.le_refl _) (Nat.le_refl _)
  have d1 : Bd (f.v + e.m - e.v) 3000 450 152 3 := by1.sub (bd_fits ev) (Nat.le_refl _) (by decide)
  have d2 : Bd (e.v - (f.v + e.m)) 3000 450 152 3 := ((bd_fits ev).sub by1 (by decide) (Nat.le_refl _)).mono (by decide) (by decide) (by decide) (by decide)
  have bm : Bd (e.m + f.m) 1200 300 151 2 := (bd_fits em).add (bd_fits fm) (Nat.le_refl _) (Nat.le_refl _)
  obtain ⟨h1, h2⟩ := tot_lo eu fu d1 d2
  have hl : Bd (loI e.v (f.v + e.m)) 3000 450 152 3 := by
    rcases (loI_le e.v (f.v + e.m)).2.2 with q | q
    · rw [q]; exact (bd_fits ev).mono (by decide) (by decide) (by decide) (by decide)
    · rw [q]; exact by1.mono (by decide) (by decide) (by decide) (by decide)
  obtain ⟨z1, z2⟩ := pln_szk (plainE_pln ⟨tot e.u e.v f.u (f.v + e.m) (loI e.v (f.v + e.m)), loI e.v (f.v + e.m), e.m + f.m⟩) h1 h2 hl
  exact ⟨z1, z2, ⟨by have := bm.sz; show (toT (e.m + f.m)).size < 16000000; omega, Nat.lt_of_le_of_lt (bm.mg.ht (by decide)) (by decide)⟩⟩
theorem pure_mul_el {K : PySem.W.Frag} {CL : Addr} {vs : List V} {H : Hp} {Q : VK} {E : XK} (h : sp_mul_el K CL vs H Q E) : t_mul_el K CL E { nx := fun _ H' => Q .non H', rt := Q } (start ["first", "second"] vs) H := by
  obtain ⟨x, y, R, W, rfl, ⟨e, f, hx, hy, he, hf, hR, hW⟩, k, kE⟩ := h
  exact x_call1 (R1 := ElE K (mulE e f)) ((er_call2 (R := PrdV K e.u e.v e.m f.u f.v f.m) (er_var' rfl hx (elE e)) (elE e) (er_var' rfl hy (elE f)) (elE f) fun w w' H5 e5 g g' => ⟨e.u, e.v, e.m, f.u, f.v, f.m, g, g', pl_fits he.2.2, pl_fits hf.2.1, pl_fits hf.2.2, s2_fits he.1 he.2.1 hf.1 hf.2.1 he.2.2, rfl⟩).imp fun w H5 e5 ⟨l', a', b', s1, s2, s3, g1, g2⟩ => by
    have hl := loI_le e.v (f.v + e.m)
    have : l' = loI e.v (f.v + e.m) := by omega
    subst this
    have q := plainE_of (m := e.m + f.m) g1
    show ElV K (mulE e f).u (mulE e f).v (mulE e f).m w H5
    unfold mulE
    rw [q]
    exact g2) (elE _) _ fun w H1 e1 g => ⟨R, W, ⟨mulE e f, g, mulE_szk he hf, fun hq w' H' g' => hR w' H' ⟨hq, g'⟩, hW⟩, fun w H2 e2 hw => k w H2 (e1.trans e2) hw, fun C H2 e2 hC => kE C H2 (e1.trans e2) hC⟩
def pInvX (K : PySem.W.Frag) (CL : Addr) : V → Hp → VP → WP → Prop := fun x H R W => ∃ e : El, ElE K e x H ∧ e.fit ∧ (∀ w H', FtE K (invE e) w H' → R w H') ∧ (¬ (invE e).fit → W CL)
def sp_inv_el (K : PySem.W.Frag) (CL : Addr) : Sp := spX1 K (pInvX K CL)
def t_inv_el (K : PySem.W.Frag) (a_TooLarge : Addr) (E : XK) : TS := (tRet (tCall (sp_allowed_el K a_TooLarge) [] E (tCons (tCall (sp_bare_inverse K) [] E0 (tCons (tVar 0) tNil)) tNil)))
theorem fit_places {n : Int} (h : (toT n).fits) : ∀ z ∈ naf n 0, Bd (z.2 : Int) 13200 601 154 5 := fun z hz => (bd_place (s := 299) h.1 (mg_of h.2) hz).mono (by decide) (by decide) (by decide) (by decide)
theorem fits_neg {n : Int} (h : (toT n).fits) : (toT (-n)).fits := ⟨by rw [size_negI]; exact h.1, (Sz.neg (sz_fits h)).ht⟩
theorem plainE_szk {e : El} (h : e.fit) : (plainE e).szk := by
  obtain ⟨z1, z2⟩ := pln_szk (plainE_pln e) (Nat.le_trans (bd_fits h.1).wt (by decide)) (fit_places h.1) ((bd_fits h.2.1).mono (by decide) (by decide) (by decide) (by decide))
  exact ⟨z1, z2, ⟨by have := h.2.2.1; show (toT e.m).size < 16000000; omega, Nat.lt_of_le_of_lt h.2.2.2 (by decide)⟩⟩
theorem invE_szk {e : El} (h : e.fit) : (invE e).szk := by
  obtain ⟨eu, ev, em⟩ := h
  have bd : Bd (e.v - e.m) 1200 300 151 2 := (bd_fits ev).sub (bd_fits em) (Nat.le_refl _) (Nat.le_refl _)
  have nu := fits_neg eu
  obtain ⟨z1, z2⟩ := pln_szk (plainE_pln ⟨-e.u, e.v - e.m, -e.m⟩) (Nat.le_trans (bd_fits nu).wt (by decide)) (fit_places nu) (bd.mono (by decide) (by decide) (by decide) (by decide))
  have nm := fits_neg em
  exact ⟨z1, z2, ⟨by have := nm.1; show (toT (-e.m)).size < 16000000; omega, Nat.lt_of_le_of_lt nm.2 (by decide)⟩⟩
theorem pure_inv_el {K : PySem.W.Frag} {CL : Addr} {vs : List V} {H : Hp} {Q : VK} {E : XK} (h : sp_inv_el K CL vs H Q E) : t_inv_el K CL E { nx := fun _ H' => Q .non H', rt := Q } (start ["element"] vs) H := by
  obtain ⟨x, R, W, rfl, ⟨e, hx, he, hR, hW⟩, k, kE⟩ := h
  have bd : Bd (e.v - e.m) 1200 300 151 2 := (bd_fits he.2.1).sub (bd_fits he.2.2) (Nat.le_refl _) (Nat.le_refl _)
  exact x_call1 (R1 := ElE K (invE e)) ((er_call1 (R := fun w H' => ∃ a b, Pln (-e.u) (e.v - e.m) a b ∧ ElV K a b (-e.m) w H') (er_var' rfl hx (elE e)) (elE e) fun w H5 e5 g => ⟨e.u, e.v, e.m, g, pl_fits he.1, lk_fits he.1, pl_fits he.2.1, pl_fits he.2.2, bd.pl' (by decide) (by decide) (by decide) (by decide), rfl⟩).imp fun w H5 e5 ⟨a, b, g1, g2⟩ => by
    have q := plainE_of (m := -e.m) g1
    show ElV K (invE e).u (invE e).v (invE e).m w H5
    unfold invE
    rw [q]
    exact g2) (elE _) _ fun w H1 e1 g => ⟨R, W, ⟨invE e, g, invE_szk he, fun hq w' H' g' => hR w' H' ⟨hq, g'⟩, hW⟩, fun w H2 e2 hw => k w H2 (e1.trans e2) hw, fun C H2 e2 hC => kE C H2 (e1.trans e2) hC⟩
end Sk
set_option Elab.async false
set_option linter.all false
set_option maxRecDepth 100000
set_option maxHeartbeats 2000000
set_option Elab.async false
set_option linter.all false
set_option maxRecDepth 100000
set_option maxHeartbeats 1000000
set_option Elab.async false
set_option linter.all false
set_option maxRecDepth 100000
set_option maxHeartbeats 1000000
set_option Elab.async false
set_option linter.all false
set_option maxRecDepth 100000
set_option maxHeartbeats 1000000
set_option Elab.async false
set_option linter.all false
set_option maxRecDepth 100000
set_option maxHeartbeats 1000000
namespace Sk
open PySem L2 Evl
def towN (l : List Int) : Nat → Nat
  | 0 => (1 + l.getD 0 0 % 5).toNat
  | k + 1 => 2 ^ towN l k + (2 * (l.getD (1 + k) 0 % 3)).toNat
def tzN : Nat → Nat
  | 0 => 5
  | k + 1 => 2 * (tzN k + 5)
theorem pw_term (t : Nat) : toT ((2 ^ t : Nat) : Int) = .cons 1 (toT (t : Int)) .nil := by
  have e : ((2 ^ t : Nat) : Int) = 2 ^ t * 1 := by rw [Int.mul_one]; exact Int.natCast_pow 2 t
  rw [toT_eq, e, naf_shift, naf_odd (by decide), show ((1 : Int) - (2 - 1 % 4)) / 2 = 0 by decide, naf_zero, Nat.zero_add]
  rfl
theorem sz_pw {t : Nat} {s h : Nat} (z : Sz (t : Int) s h) : Sz ((2 ^ t : Nat) : Int) (s + 1) (h + 1) := by
  have h1 := z.sz
  have h2 := z.ht
  rw [show Sz ((2 ^ t : Nat) : Int) (s + 1) (h + 1) ↔ _ from ⟨fun x => (⟨x.sz, x.ht⟩ : (toT ((2 ^ t : Nat) : Int)).size ≤ s + 1 ∧ (toT ((2 ^ t : Nat) : Int)).height ≤ h + 1), fun x => ⟨x.1, x.2⟩⟩, pw_term]
  refine ⟨?_, ?_⟩
  · show (toT (t : Int)).size + 1 ≤ s + 1
    omega
  · show max ((toT (t : Int)).height + 1) 0 ≤ h + 1
    omega
theorem sz_low {c : Nat} (h : c ≤ 5) : Sz (c : Int) 5 3 := by
  match c, h with
  | 0, _ => exact ⟨by decide +kernel, by decide +kernel⟩
  | 1, _ => exact ⟨by decide +kernel, by decide +kernel⟩
  | 2, _ => exact ⟨by decide +kernel, by decide +kernel⟩
  | 3, _ => exact ⟨by decide +kernel, by decide +kernel⟩
  | 4, _ => exact ⟨by decide +kernel, by decide +kernel⟩
  | 5, _ => exact ⟨by decide +kernel, by decide +kernel⟩
  | n + 6, h => omega
theorem sz_four {c : Nat} (h : c = 0 ∨ c = 2 ∨ c = 4) : Sz (c : Int) 4 3 := by
  rcases h with rfl | rfl | rfl <;> exact ⟨by decide +kernel, by decide +kernel⟩
theorem sz_tow (l : List Int) : ∀ k, Sz (towN l k : Int) (tzN k) (3 + 2 * k)
  | 0 => (sz_low (by show (1 + l.getD 0 0 % 5).toNat ≤ 5; omega)).mono (Nat.le_refl _) (by omega)
  | k + 1 => by
    show Sz ((2 ^ towN l k + (2 * (l.getD (1 + k) 0 % 3)).toNat : Nat) : Int) _ _
    rw [Int.natCast_add]
    exact ((sz_pw (sz_tow l k)).add (sz_four (c := (2 * (l.getD (1 + k) 0 % 3)).toNat) (by omega)) (m := 4 + 2 * k) (by omega) (by omega) (by omega)).mono (by show 2 * (tzN k + 1 + 4) ≤ 2 * (tzN k + 5); omega) (by omega)
theorem tz_le {k : Nat} (h : k ≤ 4) : tzN k ≤ 230 := by
  match k, h with
  | 0, _ => decide
  | 1, _ => decide
  | 2, _ => decide
  | 3, _ => decide
  | 4, _ => decide
  | n + 5, h => omega
theorem Sz.fits {n : Int} {s h : Nat} (z : Sz n s h) (h1 : s ≤ 300) (h2 : h ≤ 40) : (toT n).fits := ⟨Nat.le_trans z.sz h1, Nat.le_trans z.ht h2⟩
theorem tow_fits (l : List Int) {k : Nat} (h : k ≤ 4) : (toT (towN l k : Int)).fits := (sz_tow l k).fits (Nat.le_trans (tz_le h) (by decide)) (by omega)
section
variable {K : PySem.W.Frag} {CN CL : Addr} {σ : L2.St} {H : Hp} {te tf : TE}
/-- the one term 2^t -/
theorem er_pw {t : Nat} (h : ER te σ H (NumR K (t : Int))) : ER (tTup (tCons (tTup (tCons (tC (.int 1)) (tCons te tNil))) tNil)) σ H (NumR K ((2 ^ t : Nat) : Int)) :=
  (er_tup (RA := fun vs H2 => ∃ v, vs = [v] ∧ TermI K (1, toT (t : Int)) v H2) (ea_one ((er_tup (ea_two (R := fun v _ => v = .int 1) (R' := NumR K (t : Int)) (er_is ev_c) monoC h (numR _)) (fun vs Ha Hb e ⟨v, w, h1, h2, h3⟩ => ⟨v, w, h1, h2, h3.ex e⟩) (fun vs Ha ⟨v, w, h1, _⟩ => by rw [h1]; show 2 ≤ 100000; omega)).imp fun v H2 e2 ⟨p, vs, hv, hp, v', w, g1, g2, g3⟩ => ⟨p, w, hv, st_of (by rw [hp, g1, g2]), g3⟩) (termI _).mono)
    (fun vs Ha Hb e ⟨v, h1, h2⟩ => ⟨v, h1, (termI _).mono _ _ _ e h2⟩) (fun vs Ha ⟨v, h1, _⟩ => by rw [h1]; show 1 ≤ 100000; omega)).imp fun v H2 e2 ⟨p, vs, hv, hp, w, g1, g2⟩ => by
      subst hv g1
      show NumV K H2 (.ref p) (toT ((2 ^ t : Nat) : Int))
      rw [pw_term]
      exact NumV.mk (st_of hp) (terms_items (l := [(1, toT (t : Int))]) ⟨rfl, fun i y a g3 g4 => by
        match i with
        | 0 => cases g3; cases g4; exact g2
        | i + 1 => cases g3⟩)
theorem er_addF {a b : Int} (h : ER te σ H (NumR K a)) (h' : ER tf σ H (NumR K b)) (ha : Sz a 600 42) (hb : Sz b 600 42) (hf : (toT (a + b)).fits) : ER (tCall (sp_add K CL) [] E0 (tCons te (tCons tf tNil))) σ H (NumR K (a + b)) :=
  ft_num (er_addE h h' ha hb fun hn => absurd hf hn)
theorem er_ofl {c : Nat} (h : Ev te σ H (.int (c : Int))) (hc : c ≤ 5) : ER (tCall (sp_of_int K CN CL) [] E0 (tCons te tNil)) σ H (NumR K (c : Int)) :=
  er_ofint h (Nat.lt_of_le_of_lt (by rw [Int.natAbs_natCast]; exact hc) (Nat.lt_of_lt_of_le (by decide : 5 < 2 ^ 3) (Nat.pow_le_pow_right (by decide) (by decide)))) ((sz_low hc).fits (by decide) (by decide))
end
def pTower46 (K : PySem.W.Frag) : V → V → Hp → VP → Prop := fun x y H R => ∃ (l : List Int) (h : Nat), IntsL l x H ∧ (∀ x ∈ l, 0 ≤ x) ∧ y = .int (h : Int) ∧ h ≤ 4 ∧ h + 1 ≤ l.length ∧ R = NumR K (towN l h : Int)
def sp_law_tower46 (K : PySem.W.Frag) : Sp := spF2 (pTower46 K)
def t_law_tower46 (K : PySem.W.Frag) (a_NotAllowed : Addr) (a_TooLarge : Addr) : TS := (tSeq (tAsg (tCall (sp_of_int K a_NotAllowed a_TooLarge) [] E0 (tCons (tOp xAdd (tC (.int 1)) (tOp xMod (tOp (rIxL K) (tVar 0) (tC (.int 0))) (tC (.int 5)))) tNil)) (gName 2))
    (tSeq (tFor (iRng1 (tCons (tVar 1) tNil)) (gName 3) (tAsg (tCall (sp_add K a_TooLarge) [] E0 (tCons (tTup (tCons (tTup (tCons (tC (.int 1)) (tCons (tVar 2) tNil))) tNil)) (tCons (tCall (sp_of_int K a_NotAllowed a_TooLarge) [] E0 (tCons (tOp xMul (tC (.int 2)) (tOp xMod (tOp (rIxL K) (tVar 0) (tOp xAdd (tC (.int 1)) (tVar 3))) (tC (.int 3)))) tNil)) tNil))) (gName 2)))
    (tRet (tVar 2))))
theorem pure_law_tower46 {K : PySem.W.Frag} {CN CL : Addr} {vs : List V} {H : Hp} {Q : VK} {E : XK} (h : sp_law_tower46 K vs H Q E) : t_law_tower46 K CN CL { nx := fun _ H' => Q .non H', rt := Q } (start ["numbers", "height", "number", "k"] vs) H := by
  obtain ⟨x, y, R, rfl, ⟨l, h, ⟨p, rfl, hp⟩, hb, rfl, hh, hl, rfl⟩, k⟩ := h
  have at_ : ∀ i, i < l.length → 0 ≤ l.getD i 0 := fun i hi => hb _ (getD_mem hi)
  have h0 := at_ 0 (by omega)
  refine q_asgR (R := NumR K (towN l 0 : Int)) ?_ fun n0 H1 e1 hn0 => ?_
  · have := er_ofl (K := K) (CN := CN) (CL := CL) (c := (1 + l.getD 0 0 % 5).toNat) (te := tOp xAdd (tC (.int 1)) (tOp xMod (tOp (rIxL K) (tVar 0) (tC (.int 0))) (tC (.int 5)))) (σ := [some (.ref p), some (.int (h : Int)), none, none]) (H := H) (ev_is (ev_add ev_c (ev_mod (ev_ints (i := 0) (ev_var rfl) ev_c rfl (sq_of hp) (by omega)) ev_c (by decide))) (by congr 1; omega)) (by omega)
    exact this
  refine q_forR1 (j := 3) (n := (h : Int)) (ea_cons (ev_var rfl) ea_nil) (by omega) (fun i σ H' => ∃ (z : V) (z3 : Option V), σ = [some (.ref p), some (.int (h : Int)), some z, z3] ∧ Ex H1 H' ∧ NumV K H' z (toT (towN l i : Int))) (fun H2 e2 => ⟨n0, none, rfl, e2, hn0.ex e2⟩) ?_ ?_
  · rintro i σ H2 hi ⟨z, z3, rfl, e2, hz⟩
    have hi' : i < h := by omega
    have ha := at_ (1 + i) (by omega)
    have zt := sz_tow l i
    have tl : tzN i ≤ 230 := tz_le (by omega)
    have c := er_addF (K := K) (CL := CL) (er_pw (er_var (σ := [some (.ref p), some (.int (h : Int)), some z, some (.int (i : Int))]) (H := H2) (i := 2) rfl fun H3 e3 => hz.ex e3)) (er_ofl (K := K) (CN := CN) (CL := CL) (c := (2 * (l.getD (1 + i) 0 % 3)).toNat) (te := tOp xMul (tC (.int 2)) (tOp xMod (tOp (rIxL K) (tVar 0) (tOp xAdd (tC (.int 1)) (tVar 3))) (tC (.int 3)))) (ev_is (ev_mul ev_c (ev_mod (ev_ints (ev_var rfl) (ev_add ev_c (ev_var rfl)) (show (1 : Int) + (i : Int) = ((1 + i : Nat) : Int) by omega) (sq_of ((e1.trans e2) p _ hp)) (by omega)) ev_c (by decide)) (.inl (by decide))) (by congr 1; omega)) (by omega)) ((sz_pw zt).mono (by omega) (by omega)) ((sz_four (c := (2 * (l.getD (1 + i) 0 % 3)).toNat) (by omega)).mono (by decide) (by decide)) (by rw [← Int.natCast_add]; exact tow_fits l (k := i + 1) (by omega))
    rw [← Int.natCast_add] at c
    exact s_asgR c fun w H3 e3 hw => ⟨w, _, rfl, e2.trans e3, hw⟩
  · rintro σ H2 ⟨z, z3, rfl, e2, hz⟩
    rw [Int.toNat_natCast] at hz
    exact s_retR (er_var rfl fun H3 e3 => hz.ex e3) fun w H3 e3 g => k w H3 (e1.trans (e2.trans e3)) g
end Sk
set_option Elab.async false
set_option linter.all false
set_option maxRecDepth 100000
set_option maxHeartbeats 1000000
namespace Sk
open PySem L2 Evl
theorem cut_from {l : List Int} {i : Nat} (hi : i ≤ l.length) : cutV (l.map V.int) (some (i : Int)) none = (l.drop i).map V.int := by
  unfold cutV
  rw [List.length_map, HT.sIx_nat, Nat.min_eq_left hi, show HT.sIx l.length l.length none = l.length from rfl, List.map_drop]
  rw [List.take_of_length_le (by rw [List.length_drop, List.length_map]; exact Nat.le_refl _)]
theorem cutN46 {l : List Int} {i j : Nat} (hi : i ≤ j) (hj : j ≤ l.length) : cutV (l.map V.int) (some (i : Int)) (some (j : Int)) = ((l.drop i).take (j - i)).map V.int := by
  unfold cutV
  rw [List.length_map, HT.sIx_nat, HT.sIx_nat, Nat.min_eq_left hj, Nat.min_eq_left (Nat.le_trans hi hj), List.map_take, List.map_drop]
section
variable {K : PySem.W.Frag} {CN CL : Addr} {σ : L2.St} {H : Hp} {ta tb tc te : TE}
theorem er_from {l : List Int} {p : Addr} {i k : Nat} (hv : σ[i]? = some (some (.ref p))) (hp : H p = some (.lst (l.map V.int))) (hk : k ≤ l.length) : ER (tSl (rSlL K) (tVar i) (tPart (tC (.int (k : Int)))) tNoPart) σ H (IntsL (l.drop k)) := fun H1 e1 Q q => by
  have := el_sl (K := K) (ev_var (H := H) hv) (eo_some (ev_c (v := .int (k : Int)))) eo_none (sq_of hp)
  rw [cut_from hk] at this
  exact this H1 e1 Q fun p2 H2 hp2 e2 h2 => q _ H2 e2 ⟨p2, rfl, h2⟩
theorem er_elH {u v m : Int} (h1 : ER ta σ H (NumR K u)) (h2 : ER tb σ H (NumR K v)) (h3 : ER tc σ H (NumR K m)) : ER (tTup (tCons ta (tCons tb (tCons tc tNil)))) σ H (ElH K u v m) :=
  (er_tup (ea_three h1 numT.mono h2 numT.mono h3 numT.mono) (fun vs H1 H2 e ⟨a, b, c, g0, g1, g2, g3⟩ => ⟨a, b, c, g0, g1.ex e, g2.ex e, g3.ex e⟩) (fun vs H1 ⟨a, b, c, g0, _⟩ => by rw [g0]; show 3 ≤ 100000; omega)).imp fun w H' e ⟨p, vs, hv, hp, a, b, c, g0, g1, g2, g3⟩ => ⟨p, a, b, c, hv, by rw [hp, g0], g1, g2, g3⟩
theorem er_tower {l : List Int} {h : Nat} {y : Int} (h1 : ER ta σ H (IntsL l)) (h2 : Ev tb σ H (.int y)) (hb : ∀ x ∈ l, 0 ≤ x) (hy : y = (h : Int)) (hh : h ≤ 4) (hl : h + 1 ≤ l.length) : ER (tCall (sp_law_tower46 K) [] E0 (tCons ta (tCons tb tNil))) σ H (NumR K (towN l h : Int)) :=
  er_call2 (R2 := fun v _ => v = .int y) h1 (intsL l) (er_is h2) monoC fun v w H1 e1 g1 g2 => ⟨l, h, g1, hb, by rw [g2, hy], hh, hl, rfl⟩
theorem ev_check {n : Int} (h : ER te σ H (NumR K n)) (hf : (toT n).fits) : Ev (tCall (sp_check_number K CN) [] E0 (tCons te tNil)) σ H .non :=
  ev_er (er_call (ea_one h (numR n)) fun vs H1 e1 ⟨v, hv, g⟩ => by
    subst hv
    exact srx1 ⟨toT n, g, ⟨by have := hf.1; omega, by have := hf.2; omega⟩, fun _ _ => rfl, fun h => absurd ⟨hf, toT_can n⟩ h⟩)
end
def pick4 (a b c d : Int) (n : Int) : Int := if n % 4 = 0 then a else if n % 4 = 1 then b else if n % 4 = 2 then c else d
def towD (l : List Int) (i j q : Nat) : Int := (towN (l.drop i) (l.getD j 0 % (q : Int)).toNat : Nat)
def oddD (l : List Int) : Int := if l.getD 2 0 % 4 = 0 then pick4 1 (-1) 7 (-5) (l.getD 1 0) else ((2 ^ (towN l (l.getD 0 0 % 3).toNat + 2) : Nat) : Int) + pick4 1 (-1) 3 5 (l.getD 1 0)
def drawE (l : List Int) : El :=
  if l.getD 7 0 % 5 = 0 then ⟨0, 0, if l.getD 6 0 % 3 = 0 then 0 else towD l 4 5 5⟩ else ⟨oddD l, towD l 2 3 4, if l.getD 6 0 % 3 = 0 then 0 else towD l 4 5 5⟩
theorem sz_pick {n : Int} : Sz (pick4 1 (-1) 3 5 n) 7 4 ∧ Sz (pick4 1 (-1) 7 (-5) n) 7 4 ∧ (pick4 1 (-1) 3 5 n).natAbs ≤ 7 ∧ (pick4 1 (-1) 7 (-5) n).natAbs ≤ 7 := by
  have a : Sz 1 7 4 := ⟨by decide +kernel, by decide +kernel⟩
  have b : Sz (-1) 7 4 := ⟨by decide +kernel, by decide +kernel⟩
  have c : Sz 3 7 4 := ⟨by decide +kernel, by decide +kernel⟩
  have d : Sz 5 7 4 := ⟨by decide +kernel, by decide +kernel⟩
  have e : Sz 7 7 4 := ⟨by decide +kernel, by decide +kernel⟩
  have f : Sz (-5) 7 4 := ⟨by decide +kernel, by decide +kernel⟩
  unfold pick4
  repeat' split
  all_goals exact ⟨by assumption, by assumption, by decide, by decide⟩
theorem towD_fits (l : List Int) (i j : Nat) {q : Nat} (h : 0 < q ∧ q ≤ 5) : (toT (towD l i j q)).fits := tow_fits _ (by have := Int.emod_lt_of_pos (l.getD j 0) (show (0 : Int) < (q : Int) by omega); omega)
theorem sz_oddD (l : List Int) : Sz (oddD l) 300 40 := by
  unfold oddD
  split
  · exact sz_pick.2.1.mono (by decide) (by decide)
  · have h2 : (l.getD 0 0 % 3).toNat ≤ 2 := by omega
    have zt := sz_tow l (l.getD 0 0 % 3).toNat
    have zl : tzN (l.getD 0 0 % 3).toNat ≤ 50 := by
      rcases (show (l.getD 0 0 % 3).toNat = 0 ∨ (l.getD 0 0 % 3).toNat = 1 ∨ (l.getD 0 0 % 3).toNat = 2 by omega) with h | h | h <;> rw [h] <;> decide
    have z2 := (zt.mono zl (show 3 + 2 * (l.getD 0 0 % 3).toNat ≤ 7 by omega)).add (sz_low (c := 2) (by decide)) (Nat.le_refl 7) (by decide) (by decide)
    rw [← Int.natCast_add] at z2
    exact ((sz_pw z2).add sz_pick.1 (Nat.le_refl _) (by decide) (by decide)).mono (by decide) (by decide)
theorem drawE_fit (l : List Int) : (drawE l).fit := by
  have f0 : (toT 0).fits := by rw [toT_eq, naf_zero] <;> exact ⟨by decide, by decide⟩
  unfold drawE
  split
  · refine ⟨f0, f0, ?_⟩
    show (toT (if l.getD 6 0 % 3 = 0 then 0 else towD l 4 5 5)).fits
    split
    · exact f0
    · exact towD_fits _ _ _ (by decide)
  · refine ⟨⟨(sz_oddD l).sz, (sz_oddD l).ht⟩, towD_fits _ _ _ (by decide), ?_⟩
    show (toT (if l.getD 6 0 % 3 = 0 then 0 else towD l 4 5 5)).fits
    split
    · exact f0
    · exact towD_fits _ _ _ (by decide)
def pDrawn46 (K : PySem.W.Frag) : V → Hp → VP → Prop := fun x H R => ∃ l : List Int, IntsL l x H ∧ (∀ x ∈ l, 0 ≤ x) ∧ l.length = 14 ∧ R = FtE K (drawE l)
def sp_law_drawn46 (K : PySem.W.Frag) : Sp := spF1 (pDrawn46 K)
def t_law_drawn46 (K : PySem.W.Frag) (a_NotAllowed : Addr) (a_TooLarge : Addr) : TS := (tSeq (tAsg (tCall (sp_add K a_TooLarge) [] E0 (tCons (tTup (tCons (tTup (tCons (tC (.int 1)) (tCons (tCall (sp_add K a_TooLarge) [] E0 (tCons (tCall (sp_law_tower46 K) [] E0 (tCons (tVar 0) (tCons (tOp xMod (tOp (rIxL K) (tVar 0) (tC (.int 0))) (tC (.int 3))) tNil))) (tCons (tCall (sp_of_int K a_NotAllowed a_TooLarge) [] E0 (tCons (tC (.int 2)) tNil)) tNil))) tNil))) tNil)) (tCons (tCall (sp_of_int K a_NotAllowed a_TooLarge) [] E0 (tCons (tOp (rIxL K) (tLst (tCons (tC (.int 1)) (tCons (tUn xNeg (tC (.int 1))) (tCons (tC (.int 3)) (tCons (tC (.int 5)) tNil))))) (tOp xMod (tOp (rIxL K) (tVar 0) (tC (.int 1))) (tC (.int 4)))) tNil)) tNil))) (gName 1))
    (tSeq (tIfS (tTest (tOp rEq (tOp xMod (tOp (rIxL K) (tVar 0) (tC (.int 2))) (tC (.int 4))) (tC (.int 0)))) (tAsg (tCall (sp_of_int K a_NotAllowed a_TooLarge) [] E0 (tCons (tOp (rIxL K) (tLst (tCons (tC (.int 1)) (tCons (tUn xNeg (tC (.int 1))) (tCons (tC (.int 7)) (tCons (tUn xNeg (tC (.int 5))) tNil))))) (tOp xMod (tOp (rIxL K) (tVar 0) (tC (.int 1))) (tC (.int 4)))) tNil)) (gName 1)) tNext)
    (tSeq (tAsg (tCall (sp_law_tower46 K) [] E0 (tCons (tSl (rSlL K) (tVar 0) (tPart (tC (.int 2))) tNoPart) (tCons (tOp xMod (tOp (rIxL K) (tVar 0) (tC (.int 3))) (tC (.int 4))) tNil))) (gName 2))
    (tSeq (tAsg (tCall (sp_law_tower46 K) [] E0 (tCons (tSl (rSlL K) (tVar 0) (tPart (tC (.int 4))) tNoPart) (tCons (tOp xMod (tOp (rIxL K) (tVar 0) (tC (.int 5))) (tC (.int 5))) tNil))) (gName 3))
    (tSeq (tIfS (tTest (tOp rEq (tOp xMod (tOp (rIxL K) (tVar 0) (tC (.int 6))) (tC (.int 3))) (tC (.int 0)))) (tAsg (tTup tNil) (gName 3)) tNext)
    (tSeq (tIfS (tTest (tOp rEq (tOp xMod (tOp (rIxL K) (tVar 0) (tC (.int 7))) (tC (.int 5))) (tC (.int 0)))) (tRet (tTup (tCons (tTup tNil) (tCons (tTup tNil) (tCons (tVar 3) tNil))))) tNext)
    (tRet (tTup (tCons (tVar 1) (tCons (tVar 2) (tCons (tVar 3) tNil)))))))))))
section
variable {K : PySem.W.Frag} {CN CL : Addr} {σ : L2.St} {H : Hp} {te : TE}
theorem ev_pick4 {a b c d n : Int} {tb tc td : TE} {z : Int} (hz : Ev te σ H (.int z)) (he : z = n % 4) (hb : Ev tb σ H (.int b)) (hc : Ev tc σ H (.int c)) (hd : Ev td σ H (.int d)) : Ev (tOp (rIxL K) (tLst (tCons (tC (.int a)) (tCons tb (tCons tc (tCons td tNil))))) te) σ H (.int (pick4 a b c d n)) := by
  have h4 : n % 4 = 0 ∨ n % 4 = 1 ∨ n % 4 = 2 ∨ n % 4 = 3 := by omega
  have hl := ea_cons (ev_c (v := .int a) (σ := σ) (H := H)) (ea_cons hb (ea_cons hc (ea_cons hd ea_nil)))
  unfold pick4
  rcases h4 with h | h | h | h
  · rw [if_pos h]; exact ev_pickL (k := 0) hl (show 4 ≤ 1000 by decide) (ev_is hz (by rw [he, h]; rfl)) rfl
  · rw [if_neg (by omega), if_pos h]; exact ev_pickL (k := 1) hl (show 4 ≤ 1000 by decide) (ev_is hz (by rw [he, h]; rfl)) rfl
  · rw [if_neg (by omega), if_neg (by omega), if_pos h]; exact ev_pickL (k := 2) hl (show 4 ≤ 1000 by decide) (ev_is hz (by rw [he, h]; rfl)) rfl
  · rw [if_neg (by omega), if_neg (by omega), if_neg (by omega)]; exact ev_pickL (k := 3) hl (show 4 ≤ 1000 by decide) (ev_is hz (by rw [he, h]; rfl)) rfl
theorem er_ofp {n : Int} (h : Ev te σ H (.int n)) (hs : Sz n 7 4) (hn : n.natAbs ≤ 7) : ER (tCall (sp_of_int K CN CL) [] E0 (tCons te tNil)) σ H (NumR K n) :=
  er_ofint h (Nat.lt_of_le_of_lt hn (Nat.lt_of_lt_of_le (by decide : 7 < 2 ^ 3) (Nat.pow_le_pow_right (by decide) (by decide)))) (hs.fits (by decide) (by decide))
end
theorem pure_law_drawn46 {K : PySem.W.Frag} {CN CL : Addr} {vs : List V} {H : Hp} {Q : VK} {E : XK} (h : sp_law_drawn46 K vs H Q E) : t_law_drawn46 K CN CL { nx := fun _ H' => Q .non H', rt := Q } (start ["numbers", "odd", "v", "m"] vs) H := by
  obtain ⟨x, R, rfl, ⟨l, ⟨p, rfl, hp⟩, hb, hl, rfl⟩, k⟩ := h
  have num : ∀ {σ : L2.St} {H' : Hp} (i : Nat), σ[0]? = some (some (.ref p)) → Ex H H' → i < 14 → Ev (tOp (rIxL K) (tVar 0) (tC (.int (i : Int)))) σ H' (.int (l.getD i 0)) := fun i h0 e h3 => ev_ints (ev_var h0) ev_c rfl (sq_of (e p _ hp)) (by omega)
  have at_ : ∀ i, i < 14 → 0 ≤ l.getD i 0 := fun i hi => hb _ (getD_mem (by omega))
  have a0 := at_ 0 (by omega)
  have a3 := at_ 3 (by omega)
  have a5 := at_ 5 (by omega)
  have hd : ∀ i, ∀ x ∈ l.drop i, 0 ≤ x := fun i x hx => hb x (List.mem_of_mem_drop hx)
  have f2 : (l.getD 0 0 % 3).toNat ≤ 2 := by omega
  have zt := sz_tow l (l.getD 0 0 % 3).toNat
  have zl : tzN (l.getD 0 0 % 3).toNat ≤ 50 := by
    rcases (show (l.getD 0 0 % 3).toNat = 0 ∨ (l.getD 0 0 % 3).toNat = 1 ∨ (l.getD 0 0 % 3).toNat = 2 by omega) with h | h | h <;> rw [h] <;> decide
  have zt' : Sz (towN l (l.getD 0 0 % 3).toNat : Int) 50 7 := zt.mono zl (by omega)
  have z2 := zt'.add (sz_low (c := 2) (by decide)) (Nat.le_refl 7) (by decide) (by decide)
  rw [← Int.natCast_add] at z2
  have zw := sz_pw z2
  have so := sz_pick (n := l.getD 1 0)
  refine q_asgR (R := NumR K (((2 ^ (towN l (l.getD 0 0 % 3).toNat + 2) : Nat) : Int) + pick4 1 (-1) 3 5 (l.getD 1 0))) ?_ fun o1 H1 e1 ho1 => ?_
  · refine er_addF (er_pw (t := towN l (l.getD 0 0 % 3).toNat + 2) ?_) (er_ofp (ev_pick4 (ev_mod (num 1 rfl (Ex.refl _) (by omega)) ev_c (by decide)) rfl (ev_neg ev_c) ev_c ev_c) so.1 so.2.2.1) (zw.mono (by decide) (by decide)) (so.1.mono (by decide) (by decide)) ((zw.add so.1 (Nat.le_refl _) (by decide) (by decide)).fits (by decide) (by decide))
    rw [Int.natCast_add]
    rw [Int.natCast_add] at z2
    exact er_addF (er_tower (h := (l.getD 0 0 % 3).toNat) (er_var rfl fun H2 e2 => ⟨p, rfl, e2 p _ hp⟩) (ev_mod (num 0 rfl (Ex.refl _) (by omega)) ev_c (by decide)) hb (by omega) (by omega) (by omega)) (er_ofl (c := 2) ev_c (by decide)) (zt'.mono (by decide) (by decide)) ((sz_low (c := 2) (by decide)).mono (by decide) (by decide)) (z2.fits (by decide) (by decide))
  have rest : ∀ (o : V) (H2 : Hp), Ex H H2 → NumV K H2 o (toT (oddD l)) → (tSeq (tAsg (tCall (sp_law_tower46 K) [] E0 (tCons (tSl (rSlL K) (tVar 0) (tPart (tC (.int 2))) tNoPart) (tCons (tOp xMod (tOp (rIxL K) (tVar 0) (tC (.int 3))) (tC (.int 4))) tNil))) (gName 2)) (tSeq (tAsg (tCall (sp_law_tower46 K) [] E0 (tCons (tSl (rSlL K) (tVar 0) (tPart (tC (.int 4))) tNoPart) (tCons (tOp xMod (tOp (rIxL K) (tVar 0) (tC (.int 5))) (tC (.int 5))) tNil))) (gName 3)) (tSeq (tIfS (tTest (tOp rEq (tOp xMod (tOp (rIxL K) (tVar 0) (tC (.int 6))) (tC (.int 3))) (tC (.int 0)))) (tAsg (tTup tNil) (gName 3)) tNext) (tSeq (tIfS (tTest (tOp rEq (tOp xMod (tOp (rIxL K) (tVar 0) (tC (.int 7))) (tC (.int 5))) (tC (.int 0)))) (tRet (tTup (tCons (tTup tNil) (tCons (tTup tNil) (tCons (tVar 3) tNil))))) tNext) (tRet (tTup (tCons (tVar 1) (tCons (tVar 2) (tCons (tVar 3) tNil))))))))) { nx := fun _ H' => Q .non H', rt := Q } [some (.ref p), some o, none, none] H2 := by
    intro o H2 e2 ho
    refine q_asgR (R := NumR K (towD l 2 3 4)) (er_tower (h := (l.getD 3 0 % 4).toNat) (er_from (k := 2) rfl (e2 p _ hp) (by omega)) (ev_mod (num 3 rfl e2 (by omega)) ev_c (by decide)) (hd 2) (by omega) (by omega) (by rw [List.length_drop]; omega)) fun v H3 e3 hv => ?_
    refine q_asgR (R := NumR K (towD l 4 5 5)) (er_tower (h := (l.getD 5 0 % 5).toNat) (er_from (k := 4) rfl ((e2.trans e3) p _ hp) (by omega)) (ev_mod (num 5 rfl (e2.trans e3) (by omega)) ev_c (by decide)) (hd 4) (by omega) (by omega) (by rw [List.length_drop]; omega)) fun m0 H4 e4 hm0 => ?_
    have e24 := e2.trans (e3.trans e4)
    have fin : ∀ (m : V) (H5 : Hp), Ex H4 H5 → NumV K H5 m (toT (if l.getD 6 0 % 3 = 0 then 0 else towD l 4 5 5)) → (tSeq (tIfS (tTest (tOp rEq (tOp xMod (tOp (rIxL K) (tVar 0) (tC (.int 7))) (tC (.int 5))) (tC (.int 0)))) (tRet (tTup (tCons (tTup tNil) (tCons (tTup tNil) (tCons (tVar 3) tNil))))) tNext) (tRet (tTup (tCons (tVar 1) (tCons (tVar 2) (tCons (tVar 3) tNil)))))) { nx := fun _ H' => Q .non H', rt := Q } [some (.ref p), some o, some v, some m] H5 := by
      intro m H5 e5 hm
      have e25 := e24.trans e5
      have hfit := drawE_fit l
      refine q_when (et_test (ev_eq (ev_mod (num 7 rfl e25 (by omega)) ev_c (by decide)) ev_c rfl)) (fun hc H6 e6 => ?_) (fun hc H6 e6 => ?_)
      · have hc : l.getD 7 0 % 5 = 0 := by simpa using hc
        refine s_retR (R := ElH K 0 0 (if l.getD 6 0 % 3 = 0 then 0 else towD l 4 5 5)) (er_elH er_nil45 er_nil45 (er_var rfl fun H7 e7 => hm.ex (e6.trans e7))) fun w H7 e7 g => k w H7 (e25.trans (e6.trans e7)) ⟨hfit, ?_⟩
        unfold drawE
        rw [if_pos hc]
        exact g
      · have hc : ¬ l.getD 7 0 % 5 = 0 := by simpa using hc
        refine s_retR (R := ElH K (oddD l) (towD l 2 3 4) (if l.getD 6 0 % 3 = 0 then 0 else towD l 4 5 5)) (er_elH (er_var rfl fun H7 e7 => ho.ex (e3.trans (e4.trans (e5.trans (e6.trans e7))))) (er_var rfl fun H7 e7 => hv.ex (e4.trans (e5.trans (e6.trans e7)))) (er_var rfl fun H7 e7 => hm.ex (e6.trans e7))) fun w H7 e7 g => k w H7 (e25.trans (e6.trans e7)) ⟨hfit, ?_⟩
        unfold drawE
        rw [if_neg hc]
        exact g
    refine q_when (et_test (ev_eq (ev_mod (num 6 rfl e24 (by omega)) ev_c (by decide)) ev_c rfl)) (fun hc H5 e5 => ?_) (fun hc H5 e5 => ?_)
    · have hc : l.getD 6 0 % 3 = 0 := by simpa using hc
      exact s_asgR (R := NumR K 0) er_nil45 fun m H6 e6 g => fin m H6 (e5.trans e6) (by rw [if_pos hc]; exact g)
    · have hc : ¬ l.getD 6 0 % 3 = 0 := by simpa using hc
      exact fin m0 H5 e5 (by rw [if_neg hc]; exact hm0.ex e5)
  refine q_when (et_test (ev_eq (ev_mod (num 2 rfl e1 (by omega)) ev_c (by decide)) ev_c rfl)) (fun hc H2 e2 => ?_) (fun hc H2 e2 => ?_)
  · have hc : l.getD 2 0 % 4 = 0 := by simpa using hc
    exact s_asgR (er_ofp (ev_pick4 (ev_mod (num 1 rfl (e1.trans e2) (by omega)) ev_c (by decide)) rfl (ev_neg ev_c) ev_c (ev_neg ev_c)) so.2.1 so.2.2.2) fun o H3 e3 g => rest o H3 (e1.trans (e2.trans e3)) (by unfold oddD; rw [if_pos hc]; exact g)
  · have hc : ¬ l.getD 2 0 % 4 = 0 := by simpa using hc
    exact rest o1 H2 (e1.trans e2) (by unfold oddD; rw [if_neg hc]; exact ho1.ex e2)
end Sk
set_option Elab.async false
set_option linter.all false
namespace Sk
open PySem L2 Evl
section
variable {K : PySem.W.Frag} {σ : L2.St} {H : Hp} {te tf : TE}
theorem ev_isBl46 {a b : Bool} (ha : Ev te σ H (.bl a)) (hb : Ev tf σ H (.bl b)) : Ev (tOp rIsB te tf) σ H (.bl (decide (a = b))) := ev_op ha hb fun H1 _ Q q => ⟨a, b, rfl, rfl, q H1 (Ex.refl H1)⟩
end
end Sk
set_option Elab.async false
set_option linter.all false
set_option maxRecDepth 100000
set_option maxHeartbeats 1000000
namespace Sk
open PySem L2 Evl
def lowE (l : List Int) : El := ⟨pick4 1 (-1) 3 5 (l.getD 0 0), towD l 1 3 2, towD l 4 6 2⟩
theorem lowE_fit (l : List Int) : (lowE l).fit := ⟨sz_pick.1.fits (by decide) (by decide), towD_fits _ _ _ (by decide), towD_fits _ _ _ (by decide)⟩
def pLow46 (K : PySem.W.Frag) : V → Hp → VP → Prop := fun x H R => ∃ l : List Int, IntsL l x H ∧ (∀ x ∈ l, 0 ≤ x) ∧ l.length = 11 ∧ R = FtE K (lowE l)
def sp_law_low46 (K : PySem.W.Frag) : Sp := spF1 (pLow46 K)
def t_law_low46 (K : PySem.W.Frag) (a_NotAllowed : Addr) (a_TooLarge : Addr) : TS := (tSeq (tAsg (tCall (sp_of_int K a_NotAllowed a_TooLarge) [] E0 (tCons (tOp (rIxL K) (tLst (tCons (tC (.int 1)) (tCons (tUn xNeg (tC (.int 1))) (tCons (tC (.int 3)) (tCons (tC (.int 5)) tNil))))) (tOp xMod (tOp (rIxL K) (tVar 0) (tC (.int 0))) (tC (.int 4)))) tNil)) (gName 1))
    (tRet (tTup (tCons (tVar 1) (tCons (tCall (sp_law_tower46 K) [] E0 (tCons (tSl (rSlL K) (tVar 0) (tPart (tC (.int 1))) tNoPart) (tCons (tOp xMod (tOp (rIxL K) (tVar 0) (tC (.int 3))) (tC (.int 2))) tNil))) (tCons (tCall (sp_law_tower46 K) [] E0 (tCons (tSl (rSlL K) (tVar 0) (tPart (tC (.int 4))) tNoPart) (tCons (tOp xMod (tOp (rIxL K) (tVar 0) (tC (.int 6))) (tC (.int 2))) tNil))) tNil))))))
theorem pure_law_low46 {K : PySem.W.Frag} {CN CL : Addr} {vs : List V} {H : Hp} {Q : VK} {E : XK} (h : sp_law_low46 K vs H Q E) : t_law_low46 K CN CL { nx := fun _ H' => Q .non H', rt := Q } (start ["numbers", "odd"] vs) H := by
  obtain ⟨x, R, rfl, ⟨l, ⟨p, rfl, hp⟩, hb, hl, rfl⟩, k⟩ := h
  have num : ∀ {σ : L2.St} {H' : Hp} (i : Nat), σ[0]? = some (some (.ref p)) → Ex H H' → i < 11 → Ev (tOp (rIxL K) (tVar 0) (tC (.int (i : Int)))) σ H' (.int (l.getD i 0)) := fun i h0 e h3 => ev_ints (ev_var h0) ev_c rfl (sq_of (e p _ hp)) (by omega)
  have at_ : ∀ i, i < 11 → 0 ≤ l.getD i 0 := fun i hi => hb _ (getD_mem (by omega))
  have a3 := at_ 3 (by omega)
  have a6 := at_ 6 (by omega)
  have hd : ∀ i, ∀ x ∈ l.drop i, 0 ≤ x := fun i x hx => hb x (List.mem_of_mem_drop hx)
  refine q_asgR (er_ofp (ev_pick4 (n := l.getD 0 0) (ev_mod (num 0 rfl (Ex.refl _) (by omega)) ev_c (by decide)) rfl (ev_neg ev_c) ev_c ev_c) sz_pick.1 sz_pick.2.2.1) fun o H1 e1 ho => ?_
  exact s_retR (R := ElH K (lowE l).u (lowE l).v (lowE l).m) (er_elH (er_var rfl fun H2 e2 => ho.ex e2) (er_tower (h := (l.getD 3 0 % 2).toNat) (er_from (k := 1) rfl (e1 p _ hp) (by omega)) (ev_mod (num 3 rfl e1 (by omega)) ev_c (by decide)) (hd 1) (by omega) (by omega) (by rw [List.length_drop]; omega)) (er_tower (h := (l.getD 6 0 % 2).toNat) (er_from (k := 4) rfl (e1 p _ hp) (by omega)) (ev_mod (num 6 rfl e1 (by omega)) ev_c (by decide)) (hd 4) (by omega) (by omega) (by rw [List.length_drop]; omega))) fun w H2 e2 g => k w H2 (e1.trans e2) ⟨lowE_fit l, g⟩
def wideL (f : Nat) (n : Nat) : List (Int × T) := (List.range n).map fun k => (1, toT ((4 * k + f : Nat) : Int))
def wideN (f : Nat) : Nat → Int
  | 0 => 0
  | n + 1 => wideN f n + 2 ^ (4 * n + f)
theorem wide_sum (f : Nat) : ∀ n, sumT (wideL f n) = wideN f n
  | 0 => rfl
  | n + 1 => by
    have e : wideL f (n + 1) = wideL f n ++ [(1, toT ((4 * n + f : Nat) : Int))] := by unfold wideL; rw [List.range_succ, List.map_append]; rfl
    rw [e, sumT_app, wide_sum f n, sumT_cons, sumT_nil, toT_val]
    show wideN f n + (1 * 2 ^ ((4 * n + f : Nat) : Int).toNat + 0) = wideN f n + 2 ^ (4 * n + f)
    rw [Int.one_mul, Int.add_zero, Int.toNat_natCast]
theorem wide_fits {f : Nat} (h : f = 256 ∨ f = 1024) : (toT (wideN f 12)).fits := by
  rcases h with rfl | rfl <;> decide +kernel
def pWide46 (K : PySem.W.Frag) : V → Hp → VP → Prop := fun x H R => ∃ f : Nat, x = .int (f : Int) ∧ (f = 256 ∨ f = 1024) ∧ R = NumR K (wideN f 12)
def sp_law_wide46 (K : PySem.W.Frag) : Sp := spF1 (pWide46 K)
def t_law_wide46 (K : PySem.W.Frag) (a_NotAllowed : Addr) (a_TooLarge : Addr) : TS := (tSeq (tAsg (tLst tNil) (gName 1))
    (tSeq (tFor (iRng1 (tCons (tC (.int 12)) tNil)) (gName 2) (tDrop (tBM K "list" rAppend (tVar 1) (tCons (tTup (tCons (tC (.int 1)) (tCons (tCall (sp_of_int K a_NotAllowed a_TooLarge) [] E0 (tCons (tOp xAdd (tOp xMul (tC (.int 4)) (tVar 2)) (tVar 0)) tNil)) tNil))) tNil))))
    (tRet (tCall (sp_sum_terms K a_NotAllowed a_TooLarge) [] E0 (tCons (tVar 1) tNil)))))
theorem pure_law_wide46 {K : PySem.W.Frag} {CN CL : Addr} {vs : List V} {H : Hp} {Q : VK} {E : XK} (h : sp_law_wide46 K vs H Q E) : t_law_wide46 K CN CL { nx := fun _ H' => Q .non H', rt := Q } (start ["first", "terms", "k"] vs) H := by
  obtain ⟨x, R, rfl, ⟨f, rfl, hf, rfl⟩, k⟩ := h
  have RT : ∀ x : Int × T, MonoT (TermI K x) := fun x => termI x
  refine q_asgL (el_lst ea_nil (by decide)) fun a H1 ha e1 h1 => ?_
  refine q_forR1 (j := 2) (n := 12) (ea_cons ev_c ea_nil) ⟨by decide, by decide⟩ (fun i σ H' => ∃ (z2 : Option V) (ys : List V), σ = [some (.int (f : Int)), some (.ref a), z2] ∧ Ex H H' ∧ H' a = some (.lst ys) ∧ ItemsR (TermI K) (wideL f i) ys H') (fun H2 e2 => ⟨none, [], rfl, e1.trans e2, e2 a _ h1, .nil⟩) ?_ ?_
  · rintro i σ H2 hi ⟨z2, ys, rfl, e2, h2, hit⟩
    have hys : ys.length < 40000 := by have := hit.1; unfold wideL at this; rw [List.length_map, List.length_range] at this; omega
    have hp : 4 * i + f < 2000 := by omega
    refine s_appR (R := TermI K (1, toT ((4 * i + f : Nat) : Int))) h2 (ev_var rfl) ((er_tup (ea_two (R := fun v _ => v = .int 1) (R' := NumR K ((4 * i + f : Nat) : Int)) (er_is ev_c) monoC (er_ofint (ev_is (ev_add (ev_mul ev_c (ev_var rfl) (.inl (by decide))) (ev_var rfl)) (by rw [Int.natCast_add, Int.natCast_mul]; rfl)) (by rw [Int.natAbs_natCast]; exact Nat.lt_of_lt_of_le (by omega : 4 * i + f < 2 ^ 11) (Nat.pow_le_pow_right (by decide) (by decide))) (fits_small (by omega))) numT.mono)
      (fun vs Ha Hb e ⟨v, w, h1, h2, h3⟩ => ⟨v, w, h1, h2, h3.ex e⟩) (fun vs Ha ⟨v, w, h1, _⟩ => by rw [h1]; show 2 ≤ 100000; omega)).imp fun v H3 e3 ⟨q, vs, hv, hq, v', w, g1, g2, g3⟩ => ⟨q, w, hv, st_of (by rw [hq, g1, g2]), g3⟩) (by omega) fun v H3 e3 g => ?_
    have hx : TEx H3 (upd H3 a (.lst (ys ++ [v]))) := TEx.put (e3 a _ h2)
    refine ⟨_, ys ++ [v], rfl, Ex.mut (e2.trans e3) ha, upd_same, ?_⟩
    have e : wideL f (i + 1) = wideL f i ++ [(1, toT ((4 * i + f : Nat) : Int))] := by unfold wideL; rw [List.range_succ, List.map_append]; rfl
    rw [e]
    exact ItemsR.snoc ((hit.tex RT ((Ex.t e3).trans hx))) (termI _ _ _ _ hx g)
  · rintro σ H2 ⟨z2, ys, rfl, e2, h2, hit⟩
    have hit : ItemsR (TermI K) (wideL f 12) ys H2 := hit
    have hm : ∀ x ∈ wideL f 12, ∃ q : Nat, q < 2000 ∧ x = (1, toT (q : Int)) := fun x hx => by
      obtain ⟨i, hi, rfl⟩ := List.mem_map.mp hx
      have := List.mem_range.mp hi
      exact ⟨4 * i + f, by omega, rfl⟩
    have hfit := wide_fits hf
    refine s_retR ((er_call (sp := sp_sum_terms K CN CL) (R := NumR K (wideN f 12)) (ea_one (R := fun v _ => v = .ref a) (er_is (ev_var rfl)) monoC) fun vs H3 e3 ⟨v, hv, hv2⟩ => by
      subst hv hv2
      refine srx1 ⟨a, ys, wideL f 12, rfl, e3 a _ h2, hit.tex RT (Ex.t e3), fun x hx => ?_, fun h => absurd (fun x hx => ?_) h, fun _ h => absurd h (by unfold wideL; rw [List.length_map, List.length_range]; decide), fun _ _ => ⟨fun x hx => ?_, ?_, fun _ v H' g => ?_, fun h => ?_⟩⟩
      · obtain ⟨q, _, rfl⟩ := hm x hx; exact toT_can _
      · obtain ⟨q, _, rfl⟩ := hm x hx; exact ⟨.inl rfl, by rw [toT_val]; omega⟩
      · obtain ⟨q, hq, rfl⟩ := hm x hx
        exact ((⟨sz2810 q (by omega), height_toT 6 _ (big_cb (by unfold Big; rw [Int.natAbs_natCast]; exact Nat.le_trans (by omega : q ≤ 2 ^ 11) (Nat.pow_le_pow_right (by decide) (by decide))))⟩ : Sz (q : Int) 39 6)).sm (by omega) (by decide) (by have := ((⟨sz2810 q (by omega), Nat.le_refl _⟩ : Sz (q : Int) 39 _)).wt; omega) (by decide)
      · rw [wide_sum]; exact ⟨by have := hfit.1; omega, by have := hfit.2; omega⟩
      · rw [wide_sum] at g; exact g
      · rw [wide_sum] at h; exact absurd hfit h)) fun w H3 e3 g => k w H3 (e2.trans e3) g
def pGood46 (K : PySem.W.Frag) : V → Hp → VP → Prop := fun x H R => ∃ e : El, ElE K e x H ∧ e.fit ∧ e.pl ∧ R = fun w _ => w = .bl true
def sp_law_good46 (K : PySem.W.Frag) : Sp := spF1 (pGood46 K)
def t_law_good46 (K : PySem.W.Frag) (a_NotAllowed : Addr) (a_TooLarge : Addr) : TS := (tSeq (tFor (iTup K (tVar 0)) (gName 1) (tIfS (tTest (tOp xNotN (tCall (sp_check_number K a_NotAllowed) [] E0 (tCons (tVar 1) tNil)) (tC .non))) (tRet (tC (.bl false))) tNext))
    (tRet (tAndV (tOp rIsB (tCall (sp_is_plain K) [] E0 (tCons (tVar 0) tNil)) (tC (.bl true))) (tOp (rEqN K) (tCall (sp_plain_elX K a_TooLarge) [] E0 (tCons (tVar 0) tNil)) (tVar 0)))))
theorem pl_isPl {e : El} (h : e.pl) : isPl e.u e.v = true := by
  unfold isPl
  rcases h with ⟨h1, h2⟩ | h
  · rw [if_pos h1]; exact decide_eq_true h2
  · rw [if_neg (by omega)]; exact decide_eq_true h
section
variable {K : PySem.W.Frag} {CL : Addr} {σ : L2.St} {H : Hp} {te tf : TE} {e f : El} {ES : L2.St → XK} {E : XK}
theorem ev_isPlain (h : ER te σ H (ElE K e)) (hf : e.fit) (hp : e.pl) : Ev (tCall (sp_is_plain K) [] E0 (tCons te tNil)) σ H (.bl true) :=
  ev_is (ev_er (er_call1 (R := fun w _ => w = .bl (isPl e.u e.v)) h (elE e) fun w H1 e1 g => ⟨e.u, e.v, e.m, g, lk_fits hf.1, pl_fits hf.2.1, rfl⟩)) (by rw [pl_isPl hp])
theorem er_plainF (h : ER te σ H (ElE K e)) (he : e.fit) (hf : (plainE e).fit) : ER (tCall (sp_plain_elX K CL) [] E0 (tCons te tNil)) σ H (FtE K (plainE e)) :=
  er_xc1 (WS := fun _ => False) h (elE e) (fun C hC => hC.elim) fun w H1 e1 g => ⟨e, g, lk_fits he.1, pl_fits he.2.1, plainE_szk he, fun w' H' g' => g', fun hn => absurd hf hn⟩
end
theorem pure_law_good46 {K : PySem.W.Frag} {CN CL : Addr} {vs : List V} {H : Hp} {Q : VK} {E : XK} (h : sp_law_good46 K vs H Q E) : t_law_good46 K CN CL { nx := fun _ H' => Q .non H', rt := Q } (start ["element", "number"] vs) H := by
  obtain ⟨x, R, rfl, ⟨e, hx, hf, hp, rfl⟩, k⟩ := h
  obtain ⟨q, a, b, c, rfl, hq, h1, h2, h3⟩ := id hx
  refine q_forT (a := q) (xs := [a, b, c]) (ev_var rfl) hq (fun i σ H' => ∃ z1 : Option V, σ = [some (.ref q), z1] ∧ Ex H H') (fun H1 e1 => ⟨none, rfl, e1⟩) (fun i σ' H' hi ⟨_, _, e1⟩ => ex_t e1 hq) ?_ ?_
  · rintro i y σ H1 hi ⟨z1, rfl, e1⟩
    have hn : ∃ n : Int, NumV K H1 y (toT n) ∧ (toT n).fits := by
      match i with
      | 0 => cases hi; exact ⟨_, h1.ex e1, hf.1⟩
      | 1 => cases hi; exact ⟨_, h2.ex e1, hf.2.1⟩
      | 2 => cases hi; exact ⟨_, h3.ex e1, hf.2.2⟩
      | i + 3 => cases hi
    obtain ⟨n, hn, hnf⟩ := hn
    show tIfS _ _ _ _ _ _
    exact s_when (b := false) (et_test (ev_is (ev_notN (ev_check (n := n) (er_var rfl fun H2 e2 => hn.ex e2) hnf)) rfl)) (fun h => by cases h) fun _ H2 e2 => ⟨_, rfl, e1.trans e2⟩
  · rintro σ H1 ⟨z1, rfl, e1⟩
    have hv : ∀ {H2 : Hp}, Ex H1 H2 → ER (tVar 0) [some (.ref q), z1] H2 (ElE K e) := fun e2 => er_var rfl fun H3 e3 => elE e _ _ _ (e1.trans (e2.trans e3)) hx
    have pid := plainE_id hp
    refine s_ret (v := .bl true) (ev_is (ev_andV (a := true) (b := true) (ev_is (ev_isBl46 (ev_isPlain (hv (Ex.refl _)) hf hp) ev_c) (by decide)) fun _ => ?_) rfl) fun H2 e2 => k _ H2 (e1.trans e2) rfl
    have : Decidable (plainE e = e) := .isTrue pid
    refine ev_is (ev_eqE (e := plainE e) (f := e) ((er_plainF (hv (Ex.refl _)) hf (by rw [pid]; exact hf)).imp fun w H3 e3 g => g.el) (hv (Ex.refl _)) (by rw [pid]; exact hf)) ?_
    rw [decide_eq_true pid]
end Sk
set_option Elab.async false
set_option linter.all false
set_option maxRecDepth 100000
set_option maxHeartbeats 1000000
namespace Sk
open PySem L2 Evl
structure Lw (e : El) (w : Nat) (c d : Int) : Prop where
  pl : e.pl
  wt : Sk.wt e.u ≤ w
  ps : ∀ x ∈ naf e.u 0, -c ≤ e.v + x.2 ∧ e.v + x.2 ≤ c
  m : -d ≤ e.m ∧ e.m ≤ d
theorem fits_int {n : Int} (h : -300 ≤ n ∧ n ≤ 300) : (toT n).fits := by
  have key : ∀ j : Nat, j ≤ 300 → (toT (j : Int)).fits := fun j hj => (sz_nat (by omega)).fits (by decide) (by decide)
  rcases (show n = (n.natAbs : Int) ∨ n = -(n.natAbs : Int) by omega) with h | h
  · rw [h]; exact key _ (by omega)
  · rw [h]; exact fits_neg (key _ (by omega))
theorem Lw.fit {e : El} {w : Nat} {c d : Int} (h : Lw e w c d) (hw : w ≤ 6) (hc : c ≤ 190) (hd : d ≤ 300) : e.fit := by
  have fm := fits_int (n := e.m) (by have := h.m; omega)
  rcases h.pl with ⟨h1, h2⟩ | ho
  · rw [El.fit, h1, h2]
    exact ⟨fits_int (by decide), fits_int (by decide), fm⟩
  · have h0 := h.ps (2 - e.u % 4, 0) (by rw [naf_odd ho]; exact List.mem_cons_self)
    have hv : -c ≤ e.v ∧ e.v ≤ c := by simpa using h0
    have key : ∀ x ∈ naf e.u 0, Sz (x.2 : Int) 39 6 := fun x hx => by
      have := h.ps x hx
      exact sz_nat (by omega)
    refine ⟨⟨?_, ?_⟩, fits_int (by omega), fm⟩
    · have := size_sumP (n := e.u) (m := 6) (s := 39) (Nat.le_trans h.wt hw) fun x hx => (key x hx).sz
      omega
    · exact Nat.le_trans (ht_of (k := 7) fun x hx => Nat.succ_le_succ (key x hx).ht) (by decide)
theorem pow_place {x : Int} {k : Nat} {z : Int × Nat} (h : z ∈ naf (x * 2 ^ k) 0) : ∃ y ∈ naf x 0, z.2 = y.2 + k := by
  rw [Int.mul_comm, naf_shift, Nat.zero_add] at h
  obtain ⟨y, hy, _, e⟩ := naf_offs (a := 0) h
  exact ⟨y, hy, by omega⟩
theorem pln_low {W l u v : Int} {w : Nat} {c : Int} (h : Pln W l u v) (hw : wt W ≤ w) (hp : ∀ z ∈ naf W 0, -c ≤ l + z.2 ∧ l + z.2 ≤ c) : wt u ≤ w ∧ ∀ z ∈ naf u 0, -c ≤ v + z.2 ∧ v + z.2 ≤ c := by
  rcases h with ⟨rfl, rfl, rfl⟩ | ⟨i, rfl, ho, rfl⟩
  · exact ⟨hw, fun z hz => by rw [naf_zero] at hz; cases hz⟩
  · refine ⟨by rw [wt_mul_pow] at hw; exact hw, fun z hz => ?_⟩
    have := hp (z.1, z.2 + i) (by rw [naf_shift, Nat.zero_add]; exact naf_offs' hz i)
    have e : l + ((z.2 + i : Nat) : Int) = l + i + z.2 := by omega
    rw [← e]
    exact this
theorem low_tot {e f : El} {w w' : Nat} {c c' d d' c2 l : Int} (h : Lw e w c d) (h' : Lw f w' c' d') (h1 : c + 1 ≤ c2) (h2 : c' + d + 1 ≤ c2) (l1 : l ≤ e.v) (l2 : l ≤ f.v + e.m) :
    Sk.wt (tot e.u e.v f.u (f.v + e.m) l) ≤ w + w' ∧ ∀ z ∈ naf (tot e.u e.v f.u (f.v + e.m) l) 0, -c2 ≤ l + z.2 ∧ l + z.2 ≤ c2 := by
  have hm := h.m
  refine ⟨?_, add_place _ _ (fun p => -c2 ≤ l + (p : Int) ∧ l + (p : Int) ≤ c2) (fun z hz => ?_) fun z hz => ?_⟩
  · have h3 := wt_add (e.u * 2 ^ (e.v - l).toNat) (f.u * 2 ^ (f.v + e.m - l).toNat)
    rw [Int.mul_comm e.u, Int.mul_comm f.u, wt_mul_pow, wt_mul_pow] at h3
    have := h.wt
    have := h'.wt
    unfold tot
    rw [Int.mul_comm e.u, Int.mul_comm f.u]
    omega
  · obtain ⟨y, hy, q⟩ := pow_place hz
    have := h.ps y hy
    exact ⟨by omega, by omega⟩
  · obtain ⟨y, hy, q⟩ := pow_place hz
    have := h'.ps y hy
    exact ⟨by omega, by omega⟩
theorem Lw.mul {e f : El} {w w' : Nat} {c c' d d' c2 : Int} (h : Lw e w c d) (h' : Lw f w' c' d') (h1 : c + 1 ≤ c2) (h2 : c' + d + 1 ≤ c2) : Lw (mulE e f) (w + w') c2 (d + d') := by
  obtain ⟨l1, l2, l3⟩ := loI_le e.v (f.v + e.m)
  have hm := h.m
  have hm' := h'.m
  obtain ⟨t1, t2⟩ := low_tot h h' h1 h2 l1 l2
  have := pln_low (c := c2) (w := w + w') (plainE_pln ⟨tot e.u e.v f.u (f.v + e.m) (loI e.v (f.v + e.m)), loI e.v (f.v + e.m), e.m + f.m⟩) t1 t2
  exact ⟨mulE_pl e f, this.1, this.2, by rw [mulE_m]; omega⟩
theorem Lw.inv {e : El} {w : Nat} {c d c2 : Int} (h : Lw e w c d) (h1 : c + d ≤ c2) : Lw (invE e) w c2 d := by
  have hm := h.m
  have := pln_low (c := c2) (w := w) (plainE_pln ⟨-e.u, e.v - e.m, -e.m⟩) (by rw [wt_negI]; exact h.wt) fun z hz => by
    obtain ⟨y, hy, q⟩ := naf_negM hz
    have := h.ps y hy
    show -c2 ≤ e.v - e.m + z.2 ∧ e.v - e.m + z.2 ≤ c2
    rw [q]
    omega
  exact ⟨invE_pl e, this.1, this.2, by show -d ≤ -e.m ∧ -e.m ≤ d; omega⟩
theorem towD_low (l : List Int) (i j : Nat) : 0 ≤ towD l i j 2 ∧ towD l i j 2 ≤ 36 := by
  unfold towD
  refine ⟨by omega, ?_⟩
  rcases (show (l.getD j 0 % ((2 : Nat) : Int)).toNat = 0 ∨ (l.getD j 0 % ((2 : Nat) : Int)).toNat = 1 by omega) with h | h
  · rw [h]
    show (((1 + (l.drop i).getD 0 0 % 5).toNat : Nat) : Int) ≤ 36
    omega
  · rw [h]
    have h5 : (1 + (l.drop i).getD 0 0 % 5).toNat ≤ 5 := by omega
    have hp : 2 ^ (1 + (l.drop i).getD 0 0 % 5).toNat ≤ 2 ^ 5 := Nat.pow_le_pow_right (by decide) h5
    show (((2 ^ (1 + (l.drop i).getD 0 0 % 5).toNat + (2 * ((l.drop i).getD (1 + 0) 0 % 3)).toNat : Nat) : Nat) : Int) ≤ 36
    omega
theorem lowE_lw (l : List Int) : Lw (lowE l) 2 40 36 := by
  have hv := towD_low l 1 3
  have hm := towD_low l 4 6
  have hu : (pick4 1 (-1) 3 5 (l.getD 0 0)) % 2 = 1 ∧ (pick4 1 (-1) 3 5 (l.getD 0 0)).natAbs ≤ 5 ∧ Sk.wt (pick4 1 (-1) 3 5 (l.getD 0 0)) ≤ 2 ∧ ∀ x ∈ naf (pick4 1 (-1) 3 5 (l.getD 0 0)) 0, x.2 ≤ 4 := by
    unfold pick4
    repeat' split
    all_goals refine ⟨by decide, by decide, by decide +kernel, fun x hx => ?_⟩
    all_goals have := naf_lt hx
    all_goals simp at this
    all_goals omega
  refine ⟨.inr hu.1, hu.2.2.1, fun x hx => ?_, by show -36 ≤ towD l 4 6 2 ∧ towD l 4 6 2 ≤ 36; omega⟩
  have := hu.2.2.2 x hx
  show -40 ≤ towD l 1 3 2 + x.2 ∧ towD l 1 3 2 + x.2 ≤ 40
  omega
def AF (a b c : El) : Prop := (mulE a b).fit ∧ (mulE (mulE a b) c).fit ∧ (mulE b c).fit ∧ (invE a).fit ∧ (invE b).fit ∧ (invE c).fit ∧ (invE (mulE a b)).fit
theorem af_low (i j k : List Int) : AF (lowE i) (lowE j) (lowE k) := by
  have a := lowE_lw i
  have b := lowE_lw j
  have c := lowE_lw k
  have ab := a.mul b (c2 := 77) (by decide) (by decide)
  have bc := b.mul c (c2 := 77) (by decide) (by decide)
  exact ⟨ab.fit (by decide) (by decide) (by decide), (ab.mul c (c2 := 113) (by decide) (by decide)).fit (by decide) (by decide) (by decide), bc.fit (by decide) (by decide) (by decide), (a.inv (c2 := 76) (by decide)).fit (by decide) (by decide) (by decide), (b.inv (c2 := 76) (by decide)).fit (by decide) (by decide) (by decide), (c.inv (c2 := 76) (by decide)).fit (by decide) (by decide) (by decide), (ab.inv (c2 := 149) (by decide)).fit (by decide) (by decide) (by decide)⟩
end Sk
set_option Elab.async false
set_option linter.all false
set_option maxRecDepth 100000
set_option maxHeartbeats 400000
set_option Elab.async false
set_option linter.all false
set_option maxRecDepth 100000
set_option maxHeartbeats 1000000
namespace Sk
open PySem L2 Evl
def kSt (st : List Int) : List Key := st.map Sum.inl
theorem kSt_inj : ∀ {s t : List Int}, kSt s = kSt t → s = t
  | [], [], _ => rfl
  | [], _ :: _, h => by cases h
  | _ :: _, [], h => by cases h
  | a :: s, b :: t, h => by
    have h' : (Sum.inl a : Key) :: kSt s = Sum.inl b :: kSt t := h
    injection h' with h1 h2
    rw [Sum.inl.inj h1, kSt_inj h2]
/-- a tuple of ints, made here -/
def StV (st : List Int) : VP := fun v H => ∃ q, v = .ref q ∧ H q = some (.tup (st.map V.int))
theorem stV (st : List Int) : MonoT (StV st) := fun v H H' e ⟨q, h1, h2⟩ => ⟨q, h1, e q _ h2 trivial⟩
/-- states 0 .. n - 1 differ, state n is state l -/
def IsOrb (f : Nat → List Int) (n l : Nat) : Prop := l < n ∧ f n = f l ∧ ∀ i j, i < j → j < n → f i ≠ f j
theorem IsOrb.uniq {f : Nat → List Int} {n l n' l' : Nat} (h : IsOrb f n l) (h' : IsOrb f n' l') : n = n' ∧ l = l' := by
  obtain ⟨h1, h2, h3⟩ := h
  obtain ⟨k1, k2, k3⟩ := h'
  have hn : n = n' := by
    rcases Nat.lt_trichotomy n n' with q | q | q
    · exact absurd h2.symm (k3 l n h1 q)
    · exact q
    · exact absurd k2.symm (h3 l' n' k1 q)
  subst hn
  refine ⟨rfl, ?_⟩
  rcases Nat.lt_trichotomy l l' with q | q | q
  · exact absurd (h2.symm.trans k2) (h3 l l' q k1)
  · exact q
  · exact absurd (k2.symm.trans h2) (h3 l' l q h1)
structure Orb (f : Nat → List Int) (i : Nat) (kvs : List (List Key × V)) : Prop where
  len : kvs.length = i
  has : ∀ j, j < i → valV kvs (kSt (f j)) = some (.int (j : Int))
  only : ∀ k v, valV kvs k = some v → ∃ j, j < i ∧ k = kSt (f j)
  dist : ∀ a b, a < b → b < i → f a ≠ f b
theorem Orb.next {f : Nat → List Int} {i : Nat} {kvs : List (List Key × V)} (h : Orb f i kvs) (hn : valV kvs (kSt (f i)) = none) : Orb f (i + 1) (putK kvs (kSt (f i)) (.int (i : Int))) := by
  have hd : ∀ a, a < i → f a ≠ f i := fun a ha e => by
    have := h.has a ha
    rw [e, hn] at this
    cases this
  refine ⟨by rw [putK_new _ hn, List.length_append, h.len]; rfl, fun j hj => ?_, fun k v hk => ?_, fun a b hab hb => ?_⟩
  · rw [valV_put]
    by_cases e : j = i
    · subst e; rw [if_pos rfl]
    · have hj' : j < i := by omega
      rw [if_neg (fun q => hd j hj' (kSt_inj q))]
      exact h.has j hj'
  · rw [valV_put] at hk
    split at hk
    · rename_i q
      exact ⟨i, Nat.lt_succ_self _, q⟩
    · obtain ⟨j, h1, h2⟩ := h.only k v hk
      exact ⟨j, Nat.lt_succ_of_lt h1, h2⟩
  · rcases Nat.lt_or_eq_of_le (Nat.le_of_lt_succ hb) with q | q
    · exact h.dist a b hab q
    · subst q; exact hd a hab
theorem Orb.done {f : Nat → List Int} {i : Nat} {kvs : List (List Key × V)} (h : Orb f i kvs) (hs : (valV kvs (kSt (f i))).isSome = true) : ∃ l, IsOrb f i l ∧ valV kvs (kSt (f i)) = some (.int (l : Int)) := by
  obtain ⟨v, hv⟩ := Option.isSome_iff_exists.mp hs
  obtain ⟨l, h1, h2⟩ := h.only _ v hv
  have h3 : f i = f l := kSt_inj h2
  exact ⟨l, ⟨h1, h3, h.dist⟩, by rw [h3]; exact h.has l h1⟩
def turnF (tb : List (List Int)) (m : Int) (st : List Int) : List Int := tb.map fun r => (r.getD 0 0 * st.getD 0 0 + r.getD 1 0 * st.getD 1 0 + r.getD 2 0 * st.getD 2 0 + r.getD 3 0) % m
def orb (tb : List (List Int)) (m : Int) (st : List Int) : Nat → List Int
  | 0 => st.map (· % m)
  | n + 1 => turnF tb m (orb tb m st n)
section
variable {K : PySem.W.Frag}
def RowV (K : PySem.W.Frag) (r : List Int) : VP := fun v H => ∃ p, v = .ref p ∧ SqT K H p (r.map V.int)
theorem StV.tup {st : List Int} {v : V} {H : Hp} (h : StV st v H) : RowV K st v H := by obtain ⟨q, h1, h2⟩ := h; exact ⟨q, h1, st_of h2⟩
end
def OrbV (K : PySem.W.Frag) (tb : List (List Int)) (m : Int) (st : List Int) (n : Nat) (p : Addr) (H : Hp) : Prop := ∃ ys, H p = some (.lst ys) ∧ ItemsR StV ((List.range n).map (orb tb m st)) ys H
theorem OrbV.ex {K : PySem.W.Frag} {tb : List (List Int)} {m : Int} {st : List Int} {n : Nat} {p : Addr} {H H' : Hp} (h : OrbV K tb m st n p H) (e : Ex H H') : OrbV K tb m st n p H' := by
  obtain ⟨ys, h1, h2⟩ := h
  exact ⟨ys, e p _ h1, h2.ex (fun s => (stV s).mono) e⟩
end Sk
set_option Elab.async false
set_option linter.all false
set_option maxRecDepth 100000
set_option maxHeartbeats 1000000
namespace Sk
open PySem L2 Evl
def unitD : PyData := .tuple [.tuple [], .tuple [], .tuple []]
def UnitAt (K : PySem.W.Frag) (a : Addr) : Prop := ∀ H, Dp K H (.ref a) unitD
theorem unit_mk {K : PySem.W.Frag} {n : Nat} {a : Addr} (h : kdat K n (.ref a) = some unitD) : UnitAt K a := kdat_ref h
theorem unit_el {K : PySem.W.Frag} {a : Addr} (h : UnitAt K a) (H : Hp) : ElV K 0 0 0 (.ref a) H := by
  have h0 : toT 0 = .nil := (toT_nil_iff 0).mpr rfl
  cases h H with
  | tup h1 h2 =>
    cases h2 with
    | cons a1 h2 =>
      cases h2 with
      | cons a2 h2 =>
        cases h2 with
        | cons a3 h2 =>
          cases h2
          refine ⟨_, _, _, _, rfl, h1, ?_, ?_, ?_⟩ <;> (rw [h0]; assumption)
end Sk
set_option Elab.async false
set_option linter.all false
set_option maxRecDepth 100000
set_option maxHeartbeats 1000000
namespace Sk
open PySem L2 Evl
section
variable {K : PySem.W.Frag} {CL : Addr} {σ : L2.St} {H : Hp} {te tf : TE} {e f : El} {ES : L2.St → XK} {E : XK} {D : Ends} {tz : TS}
theorem er_mulX (h : ER te σ H (ElE K e)) (h' : ER tf σ H (ElE K f)) (he : e.fit) (hf : f.fit) (hE : ¬ (mulE e f).fit → Wsh K (fun _ => E) σ H CL) : ER (tCall (sp_mul_el K CL) [] E (tCons te (tCons tf tNil))) σ H (FtE K (mulE e f)) :=
  er_xc2 (WS := fun C => C = CL ∧ ¬ (mulE e f).fit) h (elE e) h' (elE f) (fun C hC => by rw [hC.1]; exact hE hC.2) fun v w H1 e1 g1 g2 => ⟨e, f, g1, g2, he, hf, fun w' H' g => g, fun hn => ⟨rfl, hn⟩⟩
theorem er_invX (h : ER te σ H (ElE K e)) (he : e.fit) (hE : ¬ (invE e).fit → Wsh K (fun _ => E) σ H CL) : ER (tCall (sp_inv_el K CL) [] E (tCons te tNil)) σ H (FtE K (invE e)) :=
  er_xc1 (WS := fun C => C = CL ∧ ¬ (invE e).fit) h (elE e) (fun C hC => by rw [hC.1]; exact hE hC.2) fun v H1 e1 g1 => ⟨e, g1, he, fun w' H' g => g, fun hn => ⟨rfl, hn⟩⟩
theorem ev_good (h : ER te σ H (ElE K e)) (he : e.fit) (hp : e.pl) : Ev (tCall (sp_law_good46 K) [] E0 (tCons te tNil)) σ H (.bl true) :=
  ev_er (er_call1 h (elE e) fun w H1 e1 g => ⟨e, g, he, hp, rfl⟩)
theorem ev_eqEE (h1 : ER te σ H (ElE K e)) (h2 : ER tf σ H (ElE K f)) (he : e.fit) (h : e = f) : Ev (tOp (rEqN K) te tf) σ H (.bl true) := by
  have : Decidable (e = f) := .isTrue h
  exact ev_is (ev_eqE h1 h2 he) (by rw [decide_eq_true h])
theorem ev_neEE (h1 : ER te σ H (ElE K e)) (h2 : ER tf σ H (ElE K f)) (he : e.fit) (h : e = f) : Ev (tOp (rNeN K) te tf) σ H (.bl false) := by
  have : Decidable (e = f) := .isTrue h
  exact ev_is (ev_neE h1 h2 he) (by rw [decide_eq_true h]; rfl)
theorem ER.el (h : ER te σ H (FtE K e)) : ER te σ H (ElE K e) := h.imp fun w H1 e1 g => g.el
theorem q_unpackL3 {i j l : Nat} {p : Addr} {x y z : V} (h : Ev te σ H (.ref p)) (hp : SqL K H p [x, y, z]) (k : ∀ H1, Ex H H1 → tz D (((σ.set i (some x)).set j (some y)).set l (some z)) H1) :
    tSeq (tAsg te (gLst K 3 (gCons (gName i) (gCons (gName j) (gCons (gName l) gNil))))) tz D σ H :=
  h H (Ex.refl H) _ fun H1 e1 => ⟨p, [x, y, z], rfl, ex_l e1 hp, rfl, x, [y, z], rfl, y, [z], rfl, z, [], rfl, rfl, k H1 e1⟩
end
theorem one_fit : oneE.fit := ⟨fits_int (by decide), fits_int (by decide), fits_int (by decide)⟩
def pAgrees46 (K : PySem.W.Frag) (CL : Addr) : V → Hp → VP → WP → Prop := fun x H R W => ∃ (p : Addr) (xa xb xc : V) (a b c : El), x = .ref p ∧ H p = some (.lst [xa, xb, xc]) ∧ FtE K a xa H ∧ FtE K b xb H ∧ FtE K c xc H ∧ (¬ AF a b c → W CL) ∧ R = fun w _ => w = .bl true
def sp_law_agrees46 (K : PySem.W.Frag) (CL : Addr) : Sp := spX1 K (pAgrees46 K CL)
def t_law_agrees46 (K : PySem.W.Frag) (a_TooLarge : Addr) (a_UNIT : Addr) (E : XK) : TS := (tSeq (tAsg (tVar 0) (gLst K 3 (gCons (gName 4) (gCons (gName 5) (gCons (gName 6) gNil)))))
    (tSeq (tAsg (tCall (sp_mul_el K a_TooLarge) [] E (tCons (tCall (sp_mul_el K a_TooLarge) [] E (tCons (tVar 4) (tCons (tVar 5) tNil))) (tCons (tVar 6) tNil))) (gName 1))
    (tSeq (tIfS (tOr (tTest (tOp (rNeN K) (tVar 1) (tCall (sp_mul_el K a_TooLarge) [] E (tCons (tVar 4) (tCons (tCall (sp_mul_el K a_TooLarge) [] E (tCons (tVar 5) (tCons (tVar 6) tNil))) tNil))))) (tNot (tB (tCall (sp_law_good46 K) [] E0 (tCons (tVar 1) tNil))))) (tRet (tC (.bl false))) tNext)
    (tSeq (tFor (iList K (tVar 0)) (gName 2) (tSeq (tAsg (tCall (sp_inv_el K a_TooLarge) [] E (tCons (tVar 2) tNil)) (gName 7))
    (tIfS (tOr (tTest (tOp (rNeN K) (tCall (sp_mul_el K a_TooLarge) [] E (tCons (tVar 2) (tCons (tVar 7) tNil))) (tC (.ref a_UNIT)))) (tOr (tTest (tOp (rNeN K) (tCall (sp_mul_el K a_TooLarge) [] E (tCons (tVar 7) (tCons (tVar 2) tNil))) (tC (.ref a_UNIT)))) (tNot (tB (tCall (sp_law_good46 K) [] E0 (tCons (tVar 7) tNil)))))) (tRet (tC (.bl false))) tNext)))
    (tSeq (tAsg (tCall (sp_inv_el K a_TooLarge) [] E (tCons (tCall (sp_mul_el K a_TooLarge) [] E (tCons (tVar 4) (tCons (tVar 5) tNil))) tNil)) (gName 3))
    (tRet (tOp (rEqN K) (tVar 3) (tCall (sp_mul_el K a_TooLarge) [] E (tCons (tCall (sp_inv_el K a_TooLarge) [] E (tCons (tVar 5) tNil)) (tCons (tCall (sp_inv_el K a_TooLarge) [] E (tCons (tVar 4) tNil)) tNil))))))))))
theorem pure_law_agrees46 {K : PySem.W.Frag} {CL a_UNIT : Addr} (hU : UnitAt K a_UNIT) {vs : List V} {H : Hp} {Q : VK} {E : XK} (h : sp_law_agrees46 K CL vs H Q E) : t_law_agrees46 K CL a_UNIT E { nx := fun _ H' => Q .non H', rt := Q } (start ["rows", "left", "row", "pair", "first", "second", "third", "other"] vs) H := by
  obtain ⟨x, R, W, rfl, ⟨p, xa, xb, xc, a, b, c, rfl, hp, ha, hb, hc, hW, rfl⟩, k, kE⟩ := h
  have fa := ha.1
  have fb := hb.1
  have fc := hc.1
  have wish : ∀ {σ : L2.St} {H1 : Hp}, Ex H H1 → ¬ AF a b c → Wsh K (fun _ => E) σ H1 CL := fun e1 hn H2 e2 d hd => kE CL H2 (e1.trans e2) (hW hn) d hd
  have unit : ∀ {σ : L2.St} {H1 : Hp}, ER (tC (.ref a_UNIT)) σ H1 (ElE K oneE) := fun {σ H1} => er_ev ev_c fun H2 e2 => unit_el hU H2
  refine q_unpackL3 (ev_var rfl) (sq_of hp) fun H1 e1 => ?_
  have va : ∀ {σ : L2.St} {H2 : Hp}, σ[4]? = some (some xa) → Ex H H2 → ER (tVar 4) σ H2 (ElE K a) := fun h e => er_var h fun H3 e3 => elE a _ _ _ (e.trans e3) ha.el
  have vb : ∀ {σ : L2.St} {H2 : Hp}, σ[5]? = some (some xb) → Ex H H2 → ER (tVar 5) σ H2 (ElE K b) := fun h e => er_var h fun H3 e3 => elE b _ _ _ (e.trans e3) hb.el
  have vc : ∀ {σ : L2.St} {H2 : Hp}, σ[6]? = some (some xc) → Ex H H2 → ER (tVar 6) σ H2 (ElE K c) := fun h e => er_var h fun H3 e3 => elE c _ _ _ (e.trans e3) hc.el
  have hassoc := mulE_assoc a b c
  have ab : ∀ {σ : L2.St} {H2 : Hp}, σ[4]? = some (some xa) → σ[5]? = some (some xb) → Ex H H2 → ER (tCall (sp_mul_el K CL) [] E (tCons (tVar 4) (tCons (tVar 5) tNil))) σ H2 (FtE K (mulE a b)) := fun h4 h5 e => er_mulX (va h4 e) (vb h5 e) fa fb fun hn => wish e fun z => hn z.1
  refine q_asgR (R := FtE K (mulE (mulE a b) c)) (fun H0 e0 Q' q => ?_) fun lv H2 e2 hl => ?_
  · by_cases h1 : (mulE a b).fit
    · exact er_mulX (CL := CL) (ab rfl rfl e1).el (vc rfl e1) h1 fc (fun hn => wish e1 fun z => hn z.2.1) H0 e0 Q' q
    · -- the product of the first two is not allowed
      exact x_call2 (σ := [some (.ref p), none, none, none, some xa, some xb, some xc, none]) (H := H0) (R1 := fun _ _ => False) (R2 := ElE K c) (((ab rfl rfl (e1.trans e0))).imp fun w H3 e3 g => absurd g.1 h1) (fun _ _ _ _ g => g) (vc rfl (e1.trans e0)) (elE c) _ fun v v' H3 e3 g _ => g.elim
  have f1 : (mulE (mulE a b) c).fit := hl.1
  have e02 := e1.trans e2
  have bc : ∀ {σ : L2.St} {H2 : Hp}, σ[5]? = some (some xb) → σ[6]? = some (some xc) → Ex H H2 → ER (tCall (sp_mul_el K CL) [] E (tCons (tVar 5) (tCons (tVar 6) tNil))) σ H2 (FtE K (mulE b c)) := fun h4 h5 e => er_mulX (vb h4 e) (vc h5 e) fb fc fun hn => wish e fun z => hn z.2.2.1
  have right : ∀ {σ : L2.St} {H2 : Hp}, σ[4]? = some (some xa) → σ[5]? = some (some xb) → σ[6]? = some (some xc) → Ex H H2 → ER (tCall (sp_mul_el K CL) [] E (tCons (tVar 4) (tCons (tCall (sp_mul_el K CL) [] E (tCons (tVar 5) (tCons (tVar 6) tNil))) tNil))) σ H2 (FtE K (mulE a (mulE b c))) := fun {σ H2} h4 h5 h6 e H0 e0 Q' q => by
    by_cases h1 : (mulE b c).fit
    · exact er_mulX (CL := CL) (va h4 e) (bc h5 h6 e).el fa h1 (fun hn => absurd (by rw [← hassoc]; exact f1) hn) H0 e0 Q' q
    · exact x_call2 (σ := σ) (H := H0) (R1 := ElE K a) (R2 := fun _ _ => False) (va h4 (e.trans e0)) (elE a) ((bc h5 h6 (e.trans e0)).imp fun w H3 e3 g => absurd g.1 h1) (fun _ _ _ _ g => g) _ fun v v' H3 e3 _ g => g.elim
  refine q_when (b := false || !true) (et_or (et_test (ev_neEE (er_var rfl fun H3 e3 => elE _ _ _ _ e3 hl.el) (right rfl rfl rfl e02).el f1 hassoc)) fun _ => et_not (et_B (ev_good (er_var rfl fun H3 e3 => elE _ _ _ _ e3 hl.el) f1 (mulE_pl _ _)))) (fun h => by cases h) fun _ H3 e3 => ?_
  have e03 := e02.trans e3
  refine q_forLn (xs := [xa, xb, xc]) (ev_var rfl) (sq_of (e03 p _ hp)) (fun i σ H' => ∃ z2 z7 : Option V, σ = [some (.ref p), some lv, z2, none, some xa, some xb, some xc, z7] ∧ Ex H H') (fun H4 e4 => ⟨none, none, rfl, e03.trans e4⟩) (fun i σ' H' hi ⟨_, _, _, e4⟩ => sq_of (e4 p _ hp)) ?_ ?_
  · rintro i y σ H4 hi ⟨z2, z7, rfl, e4⟩
    have hy : ∃ r : El, FtE K r y H4 ∧ (¬ (invE r).fit → ¬ AF a b c) := by
      match i with
      | 0 => cases hi; exact ⟨a, ftE a _ _ _ e4 ha, fun hn z => hn z.2.2.2.1⟩
      | 1 => cases hi; exact ⟨b, ftE b _ _ _ e4 hb, fun hn z => hn z.2.2.2.2.1⟩
      | 2 => cases hi; exact ⟨c, ftE c _ _ _ e4 hc, fun hn z => hn z.2.2.2.2.2.1⟩
      | i + 3 => cases hi
    obtain ⟨r, hr, hrn⟩ := hy
    have vr : ∀ {σ : L2.St} {H5 : Hp}, σ[2]? = some (some y) → Ex H4 H5 → ER (tVar 2) σ H5 (ElE K r) := fun h e => er_var h fun H6 e6 => elE r _ _ _ (e.trans e6) hr.el
    refine q_asgR (R := FtE K (invE r)) (er_invX (vr rfl (Ex.refl _)) hr.1 fun hn => wish e4 (hrn hn)) fun ov H5 e5 ho => ?_
    have vo : ∀ {σ : L2.St} {H6 : Hp}, σ[7]? = some (some ov) → Ex H5 H6 → ER (tVar 7) σ H6 (ElE K (invE r)) := fun h e => er_var h fun H7 e7 => elE _ _ _ _ (e.trans e7) ho.el
    refine s_when (b := false || (false || !true)) (et_or (et_test (ev_neEE (e := mulE r (invE r)) (er_mulX (CL := CL) (vr rfl e5) (vo rfl (Ex.refl _)) hr.1 ho.1 fun hn => absurd (by rw [mulE_inv]; exact one_fit) hn).el unit (by rw [mulE_inv]; exact one_fit) (mulE_inv r))) fun _ => et_or (et_test (ev_neEE (e := mulE (invE r) r) (er_mulX (CL := CL) (vo rfl (Ex.refl _)) (vr rfl e5) ho.1 hr.1 fun hn => absurd (by rw [inv_mulE]; exact one_fit) hn).el unit (by rw [inv_mulE]; exact one_fit) (inv_mulE r))) fun _ => et_not (et_B (ev_good (vo rfl (Ex.refl _)) ho.1 (invE_pl r)))) (fun h => by cases h) fun _ H6 e6 => ⟨_, _, rfl, e4.trans (e5.trans e6)⟩
  · rintro σ H4 ⟨z2, z7, rfl, e4⟩
    refine q_asgR (R := FtE K (invE (mulE a b))) (fun H0 e0 Q' q => ?_) fun pv H5 e5 hpv => ?_
    · by_cases h1 : (mulE a b).fit
      · exact er_invX (CL := CL) (ab rfl rfl e4).el h1 (fun hn => wish e4 fun z => hn z.2.2.2.2.2.2) H0 e0 Q' q
      · exact x_call1 (H := H0) (R1 := fun _ _ => False) ((ab rfl rfl (e4.trans e0)).imp fun w H3 e3 g => absurd g.1 h1) (fun _ _ _ _ g => g) _ fun v H3 e3 g => g.elim
    have e05 := e4.trans e5
    have fp : (invE (mulE a b)).fit := hpv.1
    have ib : ∀ {σ : L2.St} {H2 : Hp}, σ[5]? = some (some xb) → Ex H H2 → ER (tCall (sp_inv_el K CL) [] E (tCons (tVar 5) tNil)) σ H2 (FtE K (invE b)) := fun h e => er_invX (vb h e) fb fun hn => wish e fun z => hn z.2.2.2.2.1
    have ia : ∀ {σ : L2.St} {H2 : Hp}, σ[4]? = some (some xa) → Ex H H2 → ER (tCall (sp_inv_el K CL) [] E (tCons (tVar 4) tNil)) σ H2 (FtE K (invE a)) := fun h e => er_invX (va h e) fa fun hn => wish e fun z => hn z.2.2.2.1
    have last : ∀ {σ : L2.St} {H2 : Hp}, σ[4]? = some (some xa) → σ[5]? = some (some xb) → Ex H H2 → ER (tCall (sp_mul_el K CL) [] E (tCons (tCall (sp_inv_el K CL) [] E (tCons (tVar 5) tNil)) (tCons (tCall (sp_inv_el K CL) [] E (tCons (tVar 4) tNil)) tNil))) σ H2 (FtE K (mulE (invE b) (invE a))) := fun {σ H2} h4 h5 e H0 e0 Q' q => by
      by_cases h1 : (invE b).fit
      · by_cases h2 : (invE a).fit
        · exact er_mulX (CL := CL) (ib h5 e).el (ia h4 e).el h1 h2 (fun hn => absurd (by rw [← inv_mul]; exact fp) hn) H0 e0 Q' q
        · exact x_call2 (σ := σ) (H := H0) (R1 := ElE K (invE b)) (R2 := fun _ _ => False) (ib h5 (e.trans e0)).el (elE _) ((ia h4 (e.trans e0)).imp fun w H3 e3 g => absurd g.1 h2) (fun _ _ _ _ g => g) _ fun v v' H3 e3 _ g => g.elim
      · exact x_call2 (σ := σ) (H := H0) (R1 := fun _ _ => False) (R2 := fun w H' => FtE K (invE a) w H') ((ib h5 (e.trans e0)).imp fun w H3 e3 g => absurd g.1 h1) (fun _ _ _ _ g => g) (ia h4 (e.trans e0)) (ftE _) _ fun v v' H3 e3 g _ => g.elim
    exact s_ret (v := .bl true) (ev_eqEE (er_var rfl fun H6 e6 => elE _ _ _ _ e6 hpv.el) (last rfl rfl e05).el fp (inv_mul a b)) fun H6 e6 => k _ H6 (e05.trans e6) rfl
end Sk
set_option Elab.async false
set_option linter.all false
set_option maxRecDepth 100000
set_option maxHeartbeats 1000000
namespace Sk
open PySem L2 Evl
def ToldOk (K : PySem.W.Frag) : V → V → V → Hp → Prop := fun x y z H => (∃ e f : El, x = .int 0 ∧ ElE K e y H ∧ ElE K f z H ∧ e.fit ∧ f.fit ∧ ¬ (mulE e f).fit) ∨ (∃ e : El, x = .int 1 ∧ ElE K e y H ∧ e.fit ∧ ¬ (invE e).fit) ∨ (∃ e : El, x = .int 2 ∧ ElE K e y H ∧ e.fit ∧ ¬ (plainE e).fit)
theorem ToldOk.ex {K : PySem.W.Frag} {x y z : V} {H H' : Hp} (h : ToldOk K x y z H) (e : Ex H H') : ToldOk K x y z H' := by
  rcases h with ⟨a, b, h1, h2, h3, h4⟩ | ⟨a, h1, h2, h3⟩ | ⟨a, h1, h2, h3⟩
  · exact .inl ⟨a, b, h1, elE a _ _ _ e h2, elE b _ _ _ e h3, h4⟩
  · exact .inr (.inl ⟨a, h1, elE a _ _ _ e h2, h3⟩)
  · exact .inr (.inr ⟨a, h1, elE a _ _ _ e h2, h3⟩)
def pTold46 (K : PySem.W.Frag) : V → V → V → Hp → VP → Prop := fun x y z H R => ToldOk K x y z H ∧ R = fun v _ => v = .bl true
def sp_law_told46 (K : PySem.W.Frag) : Sp := spF3 (pTold46 K)
def t_law_told46 (K : PySem.W.Frag) (a_NotAllowed : Addr) (a_ReckonError : Addr) (a_TooLarge : Addr) : TS := (tSeq (fun D σ H => (fun W => (tIfS (tTest (tOp rEq (tVar 0) (tC (.int 0)))) (tDrop (tCallS (sp_mul_el K a_TooLarge) (WE W) (tCons (tVar 1) (tCons (tVar 2) tNil)))) (tIfS (tTest (tOp rEq (tVar 0) (tC (.int 1)))) (tDrop (tCallS (sp_inv_el K a_TooLarge) (WE W) (tCons (tVar 1) tNil))) (tDrop (tCallS (sp_plain_elX K a_TooLarge) (WE W) (tCons (tVar 1) tNil)))))) (wAs K (.ref a_ReckonError) 3 (fun a cls d => (tRet (tAndV (tCB (rIsEc K a_TooLarge a cls d) (tCons (tVar 3) (tCons (tC (.ref a_TooLarge)) tNil))) (tNotV (tCB (rIsEc K a_TooLarge a cls d) (tCons (tVar 3) (tCons (tC (.ref a_NotAllowed)) tNil))))))) (fun _ _ _ _ => False) D) D σ H)
    (tRet (tC (.bl false))))
theorem pure_law_told46 {K : PySem.W.Frag} {CN CR CL : Addr} (hx1 : PySem.W.exmOne K (.ref CL) (.ref CR) = some true) (hR1 : PySem.W.kitOne K (.ref CL) (.ref CL) = some true) (hA1 : PySem.W.kitOne K (.ref CL) (.ref CN) = some false)
    {vs : List V} {H : Hp} {Q : VK} {E : XK} (h : sp_law_told46 K vs H Q E) : t_law_told46 K CN CR CL { nx := fun _ H' => Q .non H', rt := Q } (start ["kind", "first", "second", "e"] vs) H := by
  obtain ⟨x, y, z, R, rfl, ⟨hT, rfl⟩, k⟩ := h
  have wish : ∀ (D : Ends) (H1 : Hp), Ex H H1 → D.rt = Q → Wsh K (WE (wAs K (.ref CR) 3 (fun a cls d => (tRet (tAndV (tCB (rIsEc K CL a cls d) (tCons (tVar 3) (tCons (tC (.ref CL)) tNil))) (tNotV (tCB (rIsEc K CL a cls d) (tCons (tVar 3) (tCons (tC (.ref CN)) tNil))))))) (fun _ _ _ _ => False) D)) [some x, some y, some z, none] H1 CL := fun D H1 e1 hD H2 e2 d hd =>
    ⟨true, hx1, fun _ a ha => s_ret (v := .bl true) (ev_is (ev_andV (a := true) (b := !false) (ev_isErr hd rfl hR1) fun _ => ev_notV (ev_isErr hd rfl hA1)) rfl) fun H3 e3 => by
      show D.rt (.bl true) H3
      rw [hD]
      exact k _ H3 (e1.trans (e2.trans e3)) rfl, fun h => by cases h⟩
  rcases hT with ⟨e, f, rfl, h1, h2, f1, f2, hn⟩ | ⟨e, rfl, h1, f1, hn⟩ | ⟨e, rfl, h1, f1, hn⟩
  · refine s_if (b := true) (et_test (ev_is (ev_eq (ev_var rfl) ev_c rfl) rfl)) (fun _ H1 e1 => ?_) (fun h => by cases h)
    refine xs_call2 (R1 := ElE K e) (R2 := ElE K f) (er_var rfl fun H2 e2 => elE e _ _ _ (e1.trans e2) h1) (elE e) (er_var rfl fun H2 e2 => elE f _ _ _ (e1.trans e2) h2) (elE f) _ fun v v' H2 e2 g1 g2 => ⟨fun _ _ => False, fun C => C = CL, ⟨e, f, g1, g2, f1, f2, fun w H' g => hn g.1, fun _ => rfl⟩, fun w H3 e3 hw => hw.elim, fun C H3 e3 hC d hd => ?_⟩
    subst hC
    exact wish _ H3 (e1.trans (e2.trans e3)) rfl H3 (Ex.refl _) d hd
  · refine s_if (b := false) (et_test (ev_is (ev_eq (ev_var rfl) ev_c rfl) rfl)) (fun h => by cases h) (fun _ H1 e1 => ?_)
    refine s_if (b := true) (et_test (ev_is (ev_eq (ev_var rfl) ev_c rfl) rfl)) (fun _ H2 e2 => ?_) (fun h => by cases h)
    refine xs_call1 (R1 := ElE K e) (er_var rfl fun H3 e3 => elE e _ _ _ (e1.trans (e2.trans e3)) h1) (elE e) _ fun v H3 e3 g1 => ⟨fun _ _ => False, fun C => C = CL, ⟨e, g1, f1, fun w H' g => hn g.1, fun _ => rfl⟩, fun w H4 e4 hw => hw.elim, fun C H4 e4 hC d hd => ?_⟩
    subst hC
    exact wish _ H4 (e1.trans (e2.trans (e3.trans e4))) rfl H4 (Ex.refl _) d hd
  · refine s_if (b := false) (et_test (ev_is (ev_eq (ev_var rfl) ev_c rfl) rfl)) (fun h => by cases h) (fun _ H1 e1 => ?_)
    refine s_if (b := false) (et_test (ev_is (ev_eq (ev_var rfl) ev_c rfl) rfl)) (fun h => by cases h) (fun _ H2 e2 => ?_)
    refine xs_call1 (R1 := ElE K e) (er_var rfl fun H3 e3 => elE e _ _ _ (e1.trans (e2.trans e3)) h1) (elE e) _ fun v H3 e3 g1 => ⟨fun _ _ => False, fun C => C = CL, ⟨e, g1, lk_fits f1.1, pl_fits f1.2.1, plainE_szk f1, fun w H' g => hn g.1, fun _ => rfl⟩, fun w H4 e4 hw => hw.elim, fun C H4 e4 hC d hd => ?_⟩
    subst hC
    exact wish _ H4 (e1.trans (e2.trans (e3.trans e4))) rfl H4 (Ex.refl _) d hd
def loW : Int := wideN 256 12
def hiW : Int := wideN 1024 12
theorem wide46 : (toT loW).fits ∧ (toT hiW).fits ∧ (toT (loW + 1)).fits ∧ (toT hiW).size ≤ 290 ∧ (toT hiW).height ≤ 30 ∧ ¬ (toT (loW + hiW)).fits ∧ ¬ (toT (loW + 1 + hiW)).fits ∧ 0 ≤ loW ∧ 0 ≤ hiW ∧ loW % 2 = 0 ∧ hiW % 2 = 0 := by
  unfold loW hiW
  decide +kernel
theorem plain_odd {u v m : Int} (h : u % 2 = 1) : plainE ⟨u, v, m⟩ = ⟨u, v, m⟩ := plainE_id (.inr h)
theorem tot_left {u x a : Int} (h : 0 ≤ a) : tot u 0 x a (loI 0 a) = u + x * 2 ^ a.toNat := by
  unfold loI tot
  rw [if_pos h, show ((0 : Int) - 0).toNat = 0 from rfl, Int.pow_zero, Int.mul_one, Int.sub_zero]
theorem loI_zero {a : Int} (h : 0 ≤ a) : loI 0 a = 0 := if_pos h
theorem f0 : (toT 0).fits := fits_int (by decide)
theorem f1' : (toT 1).fits := fits_int (by decide)
theorem ref1 : ¬ (mulE ⟨0, 0, loW⟩ ⟨0, 0, hiW⟩).fit := fun h => wide46.2.2.2.2.2.1 h.2.2
theorem ref2 : ¬ (mulE ⟨loW + 1, 0, 0⟩ ⟨hiW, 0, 0⟩).fit := fun h => by
  have w := wide46
  have e : mulE ⟨loW + 1, 0, 0⟩ ⟨hiW, 0, 0⟩ = ⟨loW + 1 + hiW, 0, 0⟩ := by
    show plainE ⟨tot (loW + 1) 0 hiW (0 + 0) (loI 0 (0 + 0)), loI 0 (0 + 0), 0 + 0⟩ = _
    rw [tot_left (by decide), loI_zero (by decide), show ((0 : Int) + 0).toNat = 0 from rfl, Int.pow_zero, Int.mul_one, Int.add_zero]
    exact plain_odd (by omega)
  rw [e] at h
  exact w.2.2.2.2.2.2.1 h.1
theorem ref3 : ¬ (invE ⟨1, loW, -hiW⟩).fit := fun h => by
  have e : invE ⟨1, loW, -hiW⟩ = ⟨-1, loW + hiW, hiW⟩ := by
    show plainE ⟨-1, loW - -hiW, - -hiW⟩ = _
    rw [Int.neg_neg, Int.sub_neg]
    exact plain_odd (by decide)
  rw [e] at h
  exact wide46.2.2.2.2.2.1 h.2.1
theorem pw_plain (t : Nat) (v m : Int) : plainE ⟨((2 ^ t : Nat) : Int), v, m⟩ = ⟨1, v + t, m⟩ := plainE_of (.inr ⟨t, by rw [Int.mul_one]; exact Int.natCast_pow 2 t, by decide, rfl⟩)
theorem ref4 : ¬ (plainE ⟨((2 ^ hiW.toNat : Nat) : Int), loW, 0⟩).fit := fun h => by
  have w := wide46
  rw [pw_plain, Int.toNat_of_nonneg (by omega)] at h
  exact w.2.2.2.2.2.1 h.2.1
theorem ref5 : ¬ (mulE ⟨0, 0, loW⟩ ⟨1, hiW, -loW⟩).fit := fun h => by
  have w := wide46
  have e : mulE ⟨0, 0, loW⟩ ⟨1, hiW, -loW⟩ = ⟨1, loW + hiW, 0⟩ := by
    show plainE ⟨tot 0 0 1 (hiW + loW) (loI 0 (hiW + loW)), loI 0 (hiW + loW), loW + -loW⟩ = _
    rw [tot_left (by omega), loI_zero (by omega), Int.zero_add, Int.one_mul, show loW + -loW = 0 by omega]
    have := pw_plain (hiW + loW).toNat 0 0
    rw [Int.natCast_pow, Int.toNat_of_nonneg (by omega), Int.zero_add, show hiW + loW = loW + hiW by omega] at this
    rw [show hiW + loW = loW + hiW by omega]
    exact this
  rw [e] at h
  exact w.2.2.2.2.2.1 h.2.1
end Sk
set_option Elab.async false
set_option linter.all false
set_option maxRecDepth 100000
set_option maxHeartbeats 1000000
namespace Sk
open PySem L2 Evl
section
variable {K : PySem.W.Frag} {σ : L2.St} {H : Hp} {ta tb tc te tl : TE} {R1 R2 R3 : VP}
def RowR (K : PySem.W.Frag) (R1 R2 R3 : VP) : VP := fun v H => ∃ q x y z, v = .ref q ∧ SqT K H q [x, y, z] ∧ R1 x H ∧ R2 y H ∧ R3 z H
theorem er_row3 (h1 : ER ta σ H R1) (h2 : ER tb σ H R2) (h3 : ER tc σ H R3) (m1 : Mono R1) (m2 : Mono R2) (m3 : Mono R3) : ER (tTup (tCons ta (tCons tb (tCons tc tNil)))) σ H (RowR K R1 R2 R3) :=
  (er_tup (ea_three h1 m1 h2 m2 h3 m3) (fun vs Ha Hb e ⟨v, w, z, g1, g2, g3, g4⟩ => ⟨v, w, z, g1, m1 _ _ _ e g2, m2 _ _ _ e g3, m3 _ _ _ e g4⟩) fun vs H2 ⟨v, w, z, h, _⟩ => by rw [h]; show 3 ≤ 100000; omega).imp fun v H2 e ⟨p, vs, g1, g2, u, w, z, g3, g4, g5, g6⟩ => ⟨p, u, w, z, g1, st_of (by rw [g2, g3]), g4, g5, g6⟩
theorem er_catR {RA RB : List V → Hp → Prop} (h : ER te σ H (fun v H2 => ∃ p xs, v = .ref p ∧ H2 p = some (.lst xs) ∧ RA xs H2)) (h' : ER tl σ H (fun v H2 => ∃ p zs, v = .ref p ∧ H2 p = some (.lst zs) ∧ RB zs H2)) (mA : MonoL RA) (mB : MonoL RB) (hz : ∀ xs zs H2, RA xs H2 → RB zs H2 → xs.length + zs.length ≤ 100000) :
    ER (tOp rCat te tl) σ H (fun v H2 => ∃ p xs zs, v = .ref p ∧ H2 p = some (.lst (xs ++ zs)) ∧ RA xs H2 ∧ RB zs H2) := fun H1 e Q q =>
  h H1 e _ fun v H2 e2 ⟨p, xs, hv, hp, ra⟩ => h' H2 (e.trans e2) _ fun w H3 e3 ⟨p2, zs, hw, hp2, rb⟩ => by
    subst hv hw
    have ra' := mA _ _ _ e3 ra
    exact ⟨p, p2, xs, zs, rfl, rfl, e3 p _ hp, hp2, sz_of (hz xs zs H3 ra' rb), fun r hr => q _ _ ((e2.trans e3).trans (Ex.new hr)) ⟨r, xs, zs, rfl, upd_same, mA _ _ _ (Ex.new hr) ra', mB _ _ _ (Ex.new hr) rb⟩⟩
end
end Sk
set_option Elab.async false
set_option linter.all false
set_option maxRecDepth 100000
set_option maxHeartbeats 1000000
namespace Sk
open PySem L2 Evl
def TellR (K : PySem.W.Frag) : VP := fun v H => ∃ q x y z, v = .ref q ∧ SqT K H q [x, y, z] ∧ ToldOk K x y z H
theorem tellR (K : PySem.W.Frag) : Mono (TellR K) := fun v H H' e ⟨q, x, y, z, h0, h1, h2⟩ => ⟨q, x, y, z, h0, ex_t e h1, h2.ex e⟩
def pRefused46 (K : PySem.W.Frag) : Hp → VP → Prop := fun H R => R = fun v _ => v = .bl true
def sp_law_refused46 (K : PySem.W.Frag) : Sp := spF0 (pRefused46 K)
def t_law_refused46 (K : PySem.W.Frag) (a_NotAllowed : Addr) (a_TooLarge : Addr) : TS := (tSeq (tAsg (tCall (sp_law_wide46 K) [] E0 (tCons (tC (.int 256)) tNil)) (gName 0))
    (tSeq (tAsg (tCall (sp_law_wide46 K) [] E0 (tCons (tC (.int 1024)) tNil)) (gName 1))
    (tSeq (tAsg (tCall (sp_of_int K a_NotAllowed a_TooLarge) [] E0 (tCons (tC (.int 1)) tNil)) (gName 2))
    (tSeq (tAsg (tLst (tCons (tTup (tCons (tC (.int 0)) (tCons (tTup (tCons (tTup tNil) (tCons (tTup tNil) (tCons (tVar 0) tNil)))) (tCons (tTup (tCons (tTup tNil) (tCons (tTup tNil) (tCons (tVar 1) tNil)))) tNil)))) (tCons (tTup (tCons (tC (.int 0)) (tCons (tTup (tCons (tCall (sp_add K a_TooLarge) [] E0 (tCons (tVar 0) (tCons (tVar 2) tNil))) (tCons (tTup tNil) (tCons (tTup tNil) tNil)))) (tCons (tTup (tCons (tVar 1) (tCons (tTup tNil) (tCons (tTup tNil) tNil)))) tNil)))) (tCons (tTup (tCons (tC (.int 1)) (tCons (tTup (tCons (tVar 2) (tCons (tVar 0) (tCons (tCall (sp_negate K) [] E0 (tCons (tVar 1) tNil)) tNil)))) (tCons (tTup tNil) tNil)))) tNil)))) (gName 3))
    (tSeq (tAsg (tOp rCat (tVar 3) (tLst (tCons (tTup (tCons (tC (.int 2)) (tCons (tTup (tCons (tTup (tCons (tTup (tCons (tC (.int 1)) (tCons (tVar 1) tNil))) tNil)) (tCons (tVar 0) (tCons (tTup tNil) tNil)))) (tCons (tTup tNil) tNil)))) (tCons (tTup (tCons (tC (.int 0)) (tCons (tTup (tCons (tTup tNil) (tCons (tTup tNil) (tCons (tVar 0) tNil)))) (tCons (tTup (tCons (tVar 2) (tCons (tVar 1) (tCons (tCall (sp_negate K) [] E0 (tCons (tVar 0) tNil)) tNil)))) tNil)))) tNil)))) (gName 3))
    (tSeq (tFor (iList K (tVar 3)) (gTup K 3 (gCons (gName 4) (gCons (gName 5) (gCons (gName 6) gNil)))) (tIfS (tNot (tB (tCall (sp_law_told46 K) [] E0 (tCons (tVar 4) (tCons (tVar 5) (tCons (tVar 6) tNil)))))) (tRet (tC (.bl false))) tNext))
    (tRet (tAndV (tOp (rEqN K) (tCall (sp_plain_elX K a_TooLarge) [] E0 (tCons (tTup (tCons (tVar 2) (tCons (tVar 0) (tCons (tVar 1) tNil)))) tNil)) (tTup (tCons (tVar 2) (tCons (tVar 0) (tCons (tVar 1) tNil))))) (tOp (rEqN K) (tCall (sp_inv_el K a_TooLarge) [] E0 (tCons (tTup (tCons (tTup tNil) (tCons (tTup tNil) (tCons (tVar 1) tNil)))) tNil)) (tTup (tCons (tTup tNil) (tCons (tTup tNil) (tCons (tCall (sp_negate K) [] E0 (tCons (tVar 1) tNil)) tNil)))))))))))))
theorem pure_law_refused46 {K : PySem.W.Frag} {CN CL : Addr} {vs : List V} {H : Hp} {Q : VK} {E : XK} (h : sp_law_refused46 K vs H Q E) : t_law_refused46 K CN CL { nx := fun _ H' => Q .non H', rt := Q } (start ["low", "high", "one", "rows", "kind", "first", "second"] vs) H := by
  obtain ⟨R, rfl, rfl, k⟩ := h
  have w := wide46
  have fl := w.1
  have fh := w.2.1
  have anyR : ∀ {te : TE} {σ : L2.St} {H' : Hp} {P : VP}, ER te σ H' P → ER te σ H' (fun _ _ => True) := fun h => h.imp fun _ _ _ _ => trivial
  refine q_asgR (R := NumR K loW) (er_call1 (R1 := fun v _ => v = .int ((256 : Nat) : Int)) (er_is ev_c) monoC fun v H1 e1 g => ⟨256, g, .inl rfl, rfl⟩) fun lv H1 e1 hl => ?_
  refine q_asgR (R := NumR K hiW) (er_call1 (R1 := fun v _ => v = .int ((1024 : Nat) : Int)) (er_is ev_c) monoC fun v H2 e2 g => ⟨1024, g, .inr rfl, rfl⟩) fun hv H2 e2 hh => ?_
  refine q_asgR (R := NumR K 1) (er_ofl (c := 1) ev_c (by decide)) fun ov H3 e3 ho => ?_
  have e13 := e1.trans (e2.trans e3)
  have low : ∀ {σ : L2.St} {H4 : Hp}, σ[0]? = some (some lv) → Ex H3 H4 → ER (tVar 0) σ H4 (NumR K loW) := fun h e => er_var h fun H5 e5 => hl.ex (e2.trans (e3.trans (e.trans e5)))
  have high : ∀ {σ : L2.St} {H4 : Hp}, σ[1]? = some (some hv) → Ex H3 H4 → ER (tVar 1) σ H4 (NumR K hiW) := fun h e => er_var h fun H5 e5 => hh.ex (e3.trans (e.trans e5))
  have one : ∀ {σ : L2.St} {H4 : Hp}, σ[2]? = some (some ov) → Ex H3 H4 → ER (tVar 2) σ H4 (NumR K 1) := fun h e => er_var h fun H5 e5 => ho.ex (e.trans e5)
  have nil0 : ∀ {σ : L2.St} {H4 : Hp}, ER (tTup tNil) σ H4 (NumR K 0) := er_nil45
  have neg : ∀ {σ : L2.St} {H4 : Hp} {te : TE} {n : Int}, ER te σ H4 (NumR K n) → (toT n).fits → ER (tCall (sp_negate K) [] E0 (tCons te tNil)) σ H4 (NumR K (-n)) := fun h hf => er_negP h (pl_fits hf)
  have z0 := sz_fits fl
  have zh := sz_fits fh
  have fp : (toT ((2 ^ hiW.toNat : Nat) : Int)).fits := by
    have e : ((hiW.toNat : Nat) : Int) = hiW := Int.toNat_of_nonneg w.2.2.2.2.2.2.2.2.1
    exact (sz_pw (t := hiW.toNat) (s := 290) (h := 30) (by rw [e]; exact ⟨w.2.2.2.1, w.2.2.2.2.1⟩)).fits (by decide) (by decide)
  have pwh : ∀ {σ : L2.St} {H4 : Hp}, σ[1]? = some (some hv) → Ex H3 H4 → ER (tTup (tCons (tTup (tCons (tC (.int 1)) (tCons (tVar 1) tNil))) tNil)) σ H4 (NumR K ((2 ^ hiW.toNat : Nat) : Int)) := fun h e => er_pw (by rw [Int.toNat_of_nonneg w.2.2.2.2.2.2.2.2.1]; exact high h e)
  have el : ∀ {σ : L2.St} {H4 : Hp} {ta tb tc : TE} {u v m : Int}, ER ta σ H4 (NumR K u) → ER tb σ H4 (NumR K v) → ER tc σ H4 (NumR K m) → ER (tTup (tCons ta (tCons tb (tCons tc tNil)))) σ H4 (ElE K ⟨u, v, m⟩) := fun h1 h2 h3 => er_el h1 h2 h3
  have mU : Mono (fun (_ : V) (_ : Hp) => True) := fun _ _ _ _ _ => trivial
  have c0 : ∀ {σ : L2.St} {H4 : Hp} {n : Int}, ER (tC (.int n)) σ H4 (fun v _ => v = .int n) := er_is ev_c
  let L0 : List (Option V) := [some lv, some hv, some ov, none, none, none, none]
  have r1 : ER (tLst (tCons (tTup (tCons (tC (.int 0)) (tCons (tTup (tCons (tTup tNil) (tCons (tTup tNil) (tCons (tVar 0) tNil)))) (tCons (tTup (tCons (tTup tNil) (tCons (tTup tNil) (tCons (tVar 1) tNil)))) tNil)))) (tCons (tTup (tCons (tC (.int 0)) (tCons (tTup (tCons (tCall (sp_add K CL) [] E0 (tCons (tVar 0) (tCons (tVar 2) tNil))) (tCons (tTup tNil) (tCons (tTup tNil) tNil)))) (tCons (tTup (tCons (tVar 1) (tCons (tTup tNil) (tCons (tTup tNil) tNil)))) tNil)))) (tCons (tTup (tCons (tC (.int 1)) (tCons (tTup (tCons (tVar 2) (tCons (tVar 0) (tCons (tCall (sp_negate K) [] E0 (tCons (tVar 1) tNil)) tNil)))) (tCons (tTup tNil) tNil)))) tNil)))) L0 H3 (fun v H4 => ∃ p xs, v = .ref p ∧ H3 p = none ∧ H4 p = some (.lst xs) ∧ xs.length = 3 ∧ ∀ (i : Nat) (y : V), xs[i]? = some y → TellR K y H4) := by
    refine (er_lst (RA := fun vs H4 => ∃ a b c, vs = [a, b, c] ∧ TellR K a H4 ∧ TellR K b H4 ∧ TellR K c H4) (ea_three ?ra (tellR K) ?rb (tellR K) ?rc (tellR K)) (fun vs Ha Hb e ⟨a, b, c, g0, g1, g2, g3⟩ => ⟨a, b, c, g0, tellR K _ _ _ e g1, tellR K _ _ _ e g2, tellR K _ _ _ e g3⟩) (fun vs H4 ⟨a, b, c, g0, _⟩ => by rw [g0]; show 3 ≤ 100000; omega)).imp fun v H4 e4 ⟨p, vs, g1, g2, g3, a, b, c, g4, g5, g6, g7⟩ => ⟨p, vs, g1, g2, g3, by rw [g4]; rfl, fun i y hi => ?_⟩
    case ra => exact (er_row3 (K := K) c0 (el nil0 nil0 (low rfl (Ex.refl _))) (el nil0 nil0 (high rfl (Ex.refl _))) monoC (elE _) (elE _)).imp fun v H4 e4 ⟨q, x, y, z, g0, g1, g2, g3, g4⟩ => ⟨q, x, y, z, g0, g1, .inl ⟨_, _, g2, g3, g4, ⟨f0, f0, fl⟩, ⟨f0, f0, fh⟩, ref1⟩⟩
    case rb => exact (er_row3 (K := K) c0 (el (er_addF (low rfl (Ex.refl _)) (one rfl (Ex.refl _)) (z0.mono (by decide) (by decide)) ((sz_low (c := 1) (by decide)).mono (by decide) (by decide)) w.2.2.1) nil0 nil0) (el (high rfl (Ex.refl _)) nil0 nil0) monoC (elE _) (elE _)).imp fun v H4 e4 ⟨q, x, y, z, g0, g1, g2, g3, g4⟩ => ⟨q, x, y, z, g0, g1, .inl ⟨_, _, g2, g3, g4, ⟨w.2.2.1, f0, f0⟩, ⟨fh, f0, f0⟩, ref2⟩⟩
    case rc => exact (er_row3 (K := K) c0 (el (one rfl (Ex.refl _)) (low rfl (Ex.refl _)) (neg (high rfl (Ex.refl _)) fh)) (anyR nil0) monoC (elE _) mU).imp fun v H4 e4 ⟨q, x, y, z, g0, g1, g2, g3, _⟩ => ⟨q, x, y, z, g0, g1, .inr (.inl ⟨_, g2, g3, ⟨f1', fl, fits_neg fh⟩, ref3⟩)⟩
    case _ =>
      subst g4
      match i with
      | 0 => cases hi; exact g5
      | 1 => cases hi; exact g6
      | 2 => cases hi; exact g7
      | i + 3 => cases hi
  refine q_asgR r1 fun rv H4 e4 ⟨p, xs, hrv, hp0, hp, hxl, hxs⟩ => ?_
  subst hrv
  have r2 : ER (tOp rCat (tVar 3) (tLst (tCons (tTup (tCons (tC (.int 2)) (tCons (tTup (tCons (tTup (tCons (tTup (tCons (tC (.int 1)) (tCons (tVar 1) tNil))) tNil)) (tCons (tVar 0) (tCons (tTup tNil) tNil)))) (tCons (tTup tNil) tNil)))) (tCons (tTup (tCons (tC (.int 0)) (tCons (tTup (tCons (tTup tNil) (tCons (tTup tNil) (tCons (tVar 0) tNil)))) (tCons (tTup (tCons (tVar 2) (tCons (tVar 1) (tCons (tCall (sp_negate K) [] E0 (tCons (tVar 0) tNil)) tNil)))) tNil)))) tNil)))) [some lv, some hv, some ov, some (.ref p), none, none, none] H4 (fun v H5 => ∃ p xs, v = .ref p ∧ H5 p = some (.lst xs) ∧ ∀ (i : Nat) (y : V), xs[i]? = some y → TellR K y H5) := by
    refine (er_catR (RA := fun xs H5 => xs.length = 3 ∧ ∀ (i : Nat) (y : V), xs[i]? = some y → TellR K y H5) (RB := fun vs H4 => ∃ a b, vs = [a, b] ∧ TellR K a H4 ∧ TellR K b H4) (er_var rfl fun H5 e5 => ⟨p, xs, rfl, e5 p _ hp, hxl, fun i y hi => tellR K _ _ _ e5 (hxs i y hi)⟩) ((er_lst (RA := fun vs H4 => ∃ a b, vs = [a, b] ∧ TellR K a H4 ∧ TellR K b H4) (ea_two ?ra (tellR K) ?rb (tellR K)) (fun vs Ha Hb e ⟨a, b, g0, g1, g2⟩ => ⟨a, b, g0, tellR K _ _ _ e g1, tellR K _ _ _ e g2⟩) (fun vs H4 ⟨a, b, g0, _⟩ => by rw [g0]; show 2 ≤ 100000; omega)).imp fun v H5 e5 ⟨p, vs, g1, g2, g3, g4⟩ => ⟨p, vs, g1, g3, g4⟩) (fun xs Ha Hb e ⟨h1, h2⟩ => ⟨h1, fun i y hi => tellR K _ _ _ e (h2 i y hi)⟩) (fun vs Ha Hb e ⟨a, b, g0, g1, g2⟩ => ⟨a, b, g0, tellR K _ _ _ e g1, tellR K _ _ _ e g2⟩) (fun xs zs H5 h1 ⟨a, b, g0, _⟩ => by rw [h1.1, g0]; show 3 + 2 ≤ 100000; omega)).imp fun v H5 e5 ⟨p, xs, zs, g1, g2, ⟨g3, g4⟩, a, b, g5, g6, g7⟩ => ⟨p, xs ++ zs, g1, g2, fun i y hi => ?_⟩
    case ra => exact (er_row3 (K := K) c0 (el (pwh rfl e4) (low rfl e4) nil0) (anyR nil0) monoC (elE _) mU).imp fun v H4 e4 ⟨q, x, y, z, g0, g1, g2, g3, _⟩ => ⟨q, x, y, z, g0, g1, .inr (.inr ⟨_, g2, g3, ⟨fp, fl, f0⟩, ref4⟩)⟩
    case rb => exact (er_row3 (K := K) c0 (el nil0 nil0 (low rfl e4)) (el (one rfl e4) (high rfl e4) (neg (low rfl e4) fl)) monoC (elE _) (elE _)).imp fun v H4 e4 ⟨q, x, y, z, g0, g1, g2, g3, g4⟩ => ⟨q, x, y, z, g0, g1, .inl ⟨_, _, g2, g3, g4, ⟨f0, f0, fl⟩, ⟨f1', fh, fits_neg fl⟩, ref5⟩⟩
    case _ =>
      by_cases hlt : i < xs.length
      · rw [List.getElem?_append_left hlt] at hi
        exact g4 i y hi
      · rw [List.getElem?_append_right (by omega)] at hi
        subst g5
        match i - xs.length, hi with
        | 0, hi => cases hi; exact g6
        | 1, hi => cases hi; exact g7
        | j + 2, hi => cases hi
  refine q_asgR r2 fun rv2 H5 e5 ⟨p2, xs2, hrv2, hp2, hx2⟩ => ?_
  subst hrv2
  have e35 := e4.trans e5
  refine q_forL (a := p2) (xs := xs2) (ev_var rfl) (sq_of hp2) (fun i σ H' => ∃ z4 z5 z6 : Option V, σ = [some lv, some hv, some ov, some (.ref p2), z4, z5, z6] ∧ Ex H5 H') (fun H6 e6 => ⟨none, none, none, rfl, e6⟩) (fun i σ' H' hi ⟨_, _, _, _, e6⟩ => sq_of (e6 p2 _ hp2)) ?_ ?_
  · rintro i y σ H6 hi ⟨z4, z5, z6, rfl, e6⟩
    obtain ⟨q, a, b, c, rfl, hq, hT⟩ := tellR K _ _ _ e6 (hx2 i y hi)
    refine g_trip hq ?_
    refine s_when (b := !true) (et_not (et_B (ev_er (er_call3 (R1 := fun v _ => v = a) (R2 := fun v _ => v = b) (R3 := fun v _ => v = c) (er_is (ev_var rfl)) monoC (er_is (ev_var rfl)) monoC (er_is (ev_var rfl)) monoC fun v1 v2 v3 H7 e7 h1 h2 h3 => by
      subst h1 h2 h3
      exact ⟨hT.ex e7, rfl⟩)))) (fun h => by cases h) fun _ H7 e7 => ⟨_, _, _, rfl, e6.trans e7⟩
  · rintro σ H6 ⟨z4, z5, z6, rfl, e6⟩
    have e36 := e35.trans e6
    have pe1 : plainE ⟨1, loW, hiW⟩ = ⟨1, loW, hiW⟩ := plain_odd (by decide)
    have pe2 : invE ⟨0, 0, hiW⟩ = ⟨0, 0, -hiW⟩ := plainE_of (u := -0) (v := 0 - hiW) (m := -hiW) (.inl ⟨by decide, rfl, rfl⟩)
    have g1 : El.fit ⟨1, loW, hiW⟩ := ⟨f1', fl, fh⟩
    have g2 : El.fit ⟨0, 0, -hiW⟩ := ⟨f0, f0, fits_neg fh⟩
    refine s_ret (v := .bl true) (ev_is (ev_andV (a := true) (b := true) (ev_eqEE (e := plainE ⟨1, loW, hiW⟩) (f := ⟨1, loW, hiW⟩) (er_plainF (el (one rfl e36) (low rfl e36) (high rfl e36)) g1 (by rw [pe1]; exact g1)).el (el (one rfl e36) (low rfl e36) (high rfl e36)) (by rw [pe1]; exact g1) pe1) fun _ => ev_eqEE (e := invE ⟨0, 0, hiW⟩) (f := ⟨0, 0, -hiW⟩) (er_invX (CL := CL) (el nil0 nil0 (high rfl e36)) ⟨f0, f0, fh⟩ fun hn => absurd (by rw [pe2]; exact g2) hn).el (el nil0 nil0 (neg (high rfl e36) fh)) (by rw [pe2]; exact g2) pe2) rfl) fun H7 e7 => k _ H7 (e13.trans (e36.trans e7)) rfl
end Sk
set_option Elab.async false
set_option linter.all false
set_option maxRecDepth 100000
set_option maxHeartbeats 1000000
namespace Sk
open PySem L2 Evl
theorem take14 {l : List Int} (h : l.length = 60) : cutV (l.map V.int) none (some ((14 : Nat) : Int)) = (l.take 14).map V.int := by
  have := cutN46 (l := l) (i := 0) (j := 14) (by omega) (by omega)
  rw [List.drop_zero, Nat.sub_zero] at this
  exact this
def pLaw (K : PySem.W.Frag) : V → Hp → VP → Prop := fun x H R => ∃ (a : Addr) (ns : List Int), x = .ref a ∧ SqL K H a (ns.map V.int) ∧ ns.length ≤ 63 ∧ R = fun v _ => v = .bl true
def sp_law (K : PySem.W.Frag) : Sp := spF1 (pLaw K)
def t_law (K : PySem.W.Frag) (a_TooLarge : Addr) : TS := (tSeq (tAsg (tCall (sp_law_numbers44 K) [] E0 (tCons (tVar 0) (tCons (tC (.int 60)) tNil))) (gName 1))
    (tSeq (tIfS (tNot (tB (tCall (sp_law_agrees46 K a_TooLarge) [] E0 (tCons (tLc (iRng1 (tCons (tC (.int 3)) tNil)) (gName 3) tYes (tCall (sp_law_low46 K) [] E0 (tCons (tSl (rSlL K) (tVar 1) (tPart (tOp xAdd (tOp xMul (tC (.int 14)) (tVar 3)) (tC (.int 3)))) (tPart (tOp xAdd (tOp xMul (tC (.int 14)) (tVar 3)) (tC (.int 14))))) tNil)) [3]) tNil)))) (tRet (tC (.bl false))) tNext)
    (tSeq (tAsg (tLc (iRng1 (tCons (tC (.int 3)) tNil)) (gName 3) tYes (tCall (sp_law_drawn46 K) [] E0 (tCons (tSl (rSlL K) (tVar 1) (tPart (tOp xMul (tC (.int 14)) (tVar 3))) (tPart (tOp xAdd (tOp xMul (tC (.int 14)) (tVar 3)) (tC (.int 14))))) tNil)) [3]) (gName 2))
    (tSeq (fun D σ H => (fun W => (tIfS (tNot (tB (tCallS (sp_law_agrees46 K a_TooLarge) (WE W) (tCons (tVar 2) tNil)))) (tRet (tC (.bl false))) tNext)) (wOnly K (.ref a_TooLarge) (fun a cls d => (tRet (tOp (rEqN K) (tCall (sp_law_drawn46 K) [] E0 (tCons (tSl (rSlL K) (tVar 1) tNoPart (tPart (tC (.int 14)))) tNil)) (tOp (rIxL K) (tVar 2) (tC (.int 0)))))) (fun _ _ _ _ => False) D) D σ H)
    (tRet (tCall (sp_law_refused46 K) [] E0 tNil))))))
theorem pure_law {K : PySem.W.Frag} {CL : Addr} (hx2 : PySem.W.exmOne K (.ref CL) (.ref CL) = some true) {vs : List V} {H : Hp} {Q : VK} {E : XK} (h : sp_law K vs H Q E) : t_law K CL { nx := fun _ H' => Q .non H', rt := Q } (start ["script", "numbers", "rows", "k"] vs) H := by
  obtain ⟨x, R, rfl, ⟨a, ns, rfl, hs, hn, rfl⟩, k⟩ := h
  refine q_asgR (R := NumsL 60) (er_call2 (R1 := fun v _ => v = .ref a) (R2 := fun v _ => v = .int ((60 : Nat) : Int)) (er_is (ev_var rfl)) monoC (er_is ev_c) monoC fun v w H1 e1 g1 g2 => ⟨a, ns, 60, g1, ex_l e1 hs, hn, g2, by decide, rfl⟩) fun nv H1 e1 hnv => ?_
  obtain ⟨l, hl, hb, p, rfl, hp⟩ := hnv
  have hb0 : ∀ x ∈ l, 0 ≤ x := fun x hx => (hb x hx).1
  have cut : ∀ {σ : L2.St} {H2 : Hp} {tl th : TE} (i j : Nat), σ[1]? = some (some (.ref p)) → Ex H1 H2 → i ≤ j → j ≤ 60 → Ev tl σ H2 (.int (i : Int)) → Ev th σ H2 (.int (j : Int)) → ER (tSl (rSlL K) (tVar 1) (tPart tl) (tPart th)) σ H2 (IntsL ((l.drop i).take (j - i))) := fun {σ H2 tl th} i j h0 e hij hj h1 h2 H5 e5 Q' q => by
    have := el_sl (K := K) (xs := l.map V.int) (ev_var (σ := σ) (H := H2) (i := 1) h0) (eo_some h1) (eo_some h2) (sq_of (e p _ hp))
    rw [cutN46 hij (by omega)] at this
    exact this H5 e5 Q' fun p2 H6 hp2 e6 h6 => q _ H6 e6 ⟨p2, rfl, h6⟩
  have sl0 : ∀ i j : Nat, ∀ x ∈ (l.drop i).take (j - i), 0 ≤ x := fun i j x hx => hb0 x (List.mem_of_mem_drop (List.mem_of_mem_take hx))
  have sll : ∀ i j : Nat, i ≤ j → j ≤ 60 → ((l.drop i).take (j - i)).length = j - i := fun i j h1 h2 => by rw [List.length_take, List.length_drop]; omega
  have three : ∀ (ys : List V), ys.length = 3 → ∃ a b c, ys = [a, b, c] := fun ys h => by
    match ys, h with
    | [a, b, c], _ => exact ⟨a, b, c, rfl⟩
  -- the low rows
  have lows : ER (tLc (iRng1 (tCons (tC (.int 3)) tNil)) (gName 3) tYes (tCall (sp_law_low46 K) [] E0 (tCons (tSl (rSlL K) (tVar 1) (tPart (tOp xAdd (tOp xMul (tC (.int 14)) (tVar 3)) (tC (.int 3)))) (tPart (tOp xAdd (tOp xMul (tC (.int 14)) (tVar 3)) (tC (.int 14))))) tNil)) [3]) [some (.ref a), some (.ref p), none, none] H1 (fun v H' => ∃ r ys, v = .ref r ∧ H' r = some (.lst ys) ∧ ys.length = 3 ∧ ∀ (j : Nat) (y : V), ys[j]? = some y → ∃ q : List Int, FtE K (lowE q) y H') :=
    er_lcR (n := 3) (R := fun _ v H => ∃ q : List Int, FtE K (lowE q) v H) (ea_cons ev_c ea_nil) ⟨by decide, by decide⟩ (fun _ w Ha Hb e ⟨q, h1, q2, x, y, z, h2, h3, h4, h5, h6⟩ => ⟨q, h1, q2, x, y, z, h2, e q2 _ h3 trivial, numT _ _ _ e h4, numT _ _ _ e h5, numT _ _ _ e h6⟩) fun i H2 hi e2 Qk kk => ⟨rfl, (er_call1 (R := FtE K (lowE ((l.drop (14 * i + 3)).take (14 * i + 14 - (14 * i + 3))))) (cut (14 * i + 3) (14 * i + 14) rfl e2 (by omega) (by omega) (ev_is (ev_add (ev_mul ev_c (ev_var rfl) (.inl (by decide))) ev_c) (congrArg V.int (by omega))) (ev_is (ev_add (ev_mul ev_c (ev_var rfl) (.inl (by decide))) ev_c) (congrArg V.int (by omega)))) (intsL _) fun v H5 e5 g => ⟨_, g, sl0 _ _, by rw [sll _ _ (by omega) (by omega)]; omega, rfl⟩).imp (fun v H5 e5 g => ⟨_, g⟩) H2 (Ex.refl _) _ kk⟩
  have mono3 : ∀ (f : V → Hp → Prop), Mono f → Mono (fun v H' => ∃ r ys, v = .ref r ∧ H' r = some (.lst ys) ∧ ys.length = 3 ∧ ∀ (j : Nat) (y : V), ys[j]? = some y → f y H') := fun f hf v H H' e ⟨r, ys, h1, h2, h3, h4⟩ => ⟨r, ys, h1, e r _ h2, h3, fun j y hj => hf y _ _ e (h4 j y hj)⟩
  refine q_when (b := !true) (et_not (et_B (ev_er (er_xc1 (K := K) (P := pAgrees46 K CL) (E := E0) (WS := fun _ => False) (R := fun w _ => w = .bl true) lows (mono3 _ fun w Ha Hb e ⟨q, g⟩ => ⟨q, ftE _ _ _ _ e g⟩) (fun C hC => hC.elim) fun v H2 e2 ⟨r, ys, hv, hr, hyl, hys⟩ => by
    obtain ⟨xa, xb, xc, rfl⟩ := three ys hyl
    obtain ⟨i, hi⟩ := hys 0 xa rfl
    obtain ⟨j, hj⟩ := hys 1 xb rfl
    obtain ⟨m, hm⟩ := hys 2 xc rfl
    exact ⟨r, xa, xb, xc, _, _, _, hv, hr, hi, hj, hm, fun hn => absurd (af_low i j m) hn, rfl⟩)))) (fun h => by cases h) fun _ H2 e2 => ?_
  -- the drawn rows
  refine q_asgR (R := fun v H' => ∃ r ys, v = .ref r ∧ H' r = some (.lst ys) ∧ ys.length = 3 ∧ ∀ (j : Nat) (y : V), ys[j]? = some y → FtE K (drawE ((l.drop (14 * j)).take 14)) y H') (er_lcR (n := 3) (R := fun i => FtE K (drawE ((l.drop (14 * i)).take 14))) (ea_cons ev_c ea_nil) ⟨by decide, by decide⟩ (fun _ w Ha Hb e ⟨h1, q2, x, y, z, h2, h3, h4, h5, h6⟩ => ⟨h1, q2, x, y, z, h2, e q2 _ h3 trivial, numT _ _ _ e h4, numT _ _ _ e h5, numT _ _ _ e h6⟩) fun i H3 hi e3 Qk kk => ⟨rfl, ?_⟩) fun rv H3 e3 ⟨r, ys, hv, hr, hyl, hys⟩ => ?_
  · have c := cut (σ := [some (.ref a), some (.ref p), none, some (.int (i : Int))]) (H2 := H3) (tl := tOp xMul (tC (.int 14)) (tVar 3)) (th := tOp xAdd (tOp xMul (tC (.int 14)) (tVar 3)) (tC (.int 14))) (14 * i) (14 * i + 14) rfl (e2.trans e3) (by omega) (by omega) (ev_is (ev_mul ev_c (ev_var rfl) (.inl (by decide))) (congrArg V.int (by omega))) (ev_is (ev_add (ev_mul ev_c (ev_var rfl) (.inl (by decide))) ev_c) (congrArg V.int (by omega)))
    rw [show 14 * i + 14 - 14 * i = 14 by omega] at c
    exact (er_call1 (R := FtE K (drawE ((l.drop (14 * i)).take 14))) c (intsL _) fun v H5 e5 g => ⟨_, g, by have := sl0 (14 * i) (14 * i + 14); rwa [show 14 * i + 14 - 14 * i = 14 by omega] at this, by have := sll (14 * i) (14 * i + 14) (by omega) (by omega); rwa [show 14 * i + 14 - 14 * i = 14 by omega] at this, rfl⟩) H3 (Ex.refl _) _ kk
  subst hv
  obtain ⟨xa, xb, xc, rfl⟩ := three ys hyl
  have ha := hys 0 xa rfl
  have hb' := hys 1 xb rfl
  have hc := hys 2 xc rfl
  have e13 := e2.trans e3
  refine s_when (b := !true) (et_not (et_B (ev_er (er_xs1 (K := K) (P := pAgrees46 K CL) (ES := WE (wOnly K (.ref CL) (fun a cls d => (tRet (tOp (rEqN K) (tCall (sp_law_drawn46 K) [] E0 (tCons (tSl (rSlL K) (tVar 1) tNoPart (tPart (tC (.int 14)))) tNil)) (tOp (rIxL K) (tVar 2) (tC (.int 0)))))) (fun _ _ _ _ => False) { nx := fun σ' H' => tRet (tCall (sp_law_refused46 K) [] E0 tNil) { nx := fun _ H' => Q .non H', rt := Q } σ' H', rt := Q })) (WS := fun C => C = CL) (R := fun w _ => w = .bl true) (R1 := fun v _ => v = .ref r) (er_is (ev_var rfl)) monoC (fun C hC H4 e4 d hd => ?_) fun v H4 e4 hv => ?_)))) (fun h => by cases h) fun _ H4 e4 => ?_
  · subst hC
    refine ⟨true, hx2, fun _ ad had => ?_, fun h => by cases h⟩
    have sl : ER (tSl (rSlL K) (tVar 1) tNoPart (tPart (tC (.int 14)))) [some (.ref a), some (.ref p), some (.ref r), none] H4 (IntsL (l.take 14)) := fun H5 e5 Q' q => by
      have := el_sl (K := K) (xs := l.map V.int) (ev_var (σ := [some (.ref a), some (.ref p), some (.ref r), none]) (H := H4) (i := 1) rfl) eo_none (eo_some (ev_c (v := .int ((14 : Nat) : Int)))) (sq_of ((e13.trans e4) p _ hp))
      rw [take14 hl] at this
      exact this H5 e5 Q' fun p2 H6 hp2 e6 h6 => q _ H6 e6 ⟨p2, rfl, h6⟩
    have dr : ER (tCall (sp_law_drawn46 K) [] E0 (tCons (tSl (rSlL K) (tVar 1) tNoPart (tPart (tC (.int 14)))) tNil)) [some (.ref a), some (.ref p), some (.ref r), none] H4 (FtE K (drawE (l.take 14))) := er_call1 sl (intsL _) fun v H5 e5 g => ⟨_, g, fun x hx => hb0 x (List.mem_of_mem_take hx), by rw [List.length_take]; omega, rfl⟩
    refine s_ret (v := .bl true) (ev_eqEE (e := drawE (l.take 14)) (f := drawE (l.take 14)) dr.el (er_ev (v := xa) (fun H5 e5 Q' q => ?_) fun H5 e5 => elE _ _ _ _ (e4.trans e5) ha.el) (drawE_fit _) rfl) fun H5 e5 => k _ H5 (e1.trans (e13.trans (e4.trans e5))) rfl
    exact ev_at (a := r) (xs := [xa, xb, xc]) (k := 0) (ev_var rfl) ev_c (sq_of (e4 r _ hr)) rfl H5 e5 Q' q
  · subst hv
    exact ⟨r, xa, xb, xc, _, _, _, rfl, e4 r _ hr, ftE _ _ _ _ e4 ha, ftE _ _ _ _ e4 hb', ftE _ _ _ _ e4 hc, fun _ => rfl, rfl⟩
  · exact s_ret (D := { nx := fun _ H' => Q .non H', rt := Q }) (v := .bl true) (ev_er (er_call (sp := sp_law_refused46 K) (E := E0) (σ := [some (.ref a), some (.ref p), some (.ref r), none]) (R := fun v _ => v = .bl true) ea_nil' fun vs H5 e5 hv Q' E' q => ⟨_, hv, rfl, q⟩)) fun H5 e5 => k _ H5 (e1.trans (e13.trans (e4.trans e5))) rfl
end Sk
set_option Elab.async false
set_option linter.all false
set_option maxRecDepth 100000
set_option maxHeartbeats 1000000
namespace Sk
open PySem PySem.Spec PyProof.Rows L2 L2H
section
variable {prog : Program} {w : World} {A : Around} {E : Value → Shared → Prop} {s : Shared}
theorem hot_go {x1 : Addr} {h h' : Heap} (hot : HotX.HotAt A x1 h) (k : ∀ o, h.get? x1 = some o → h'.get? x1 = some o) : HotX.HotAt A x1 h' := by
  obtain ⟨hh, o, v, e, r⟩ := hot
  exact ⟨hh, o, v, k o e, r⟩
theorem unpackH {x1 t : Addr} {items : Array Value} {targets : List (Bool × (Value → Sem Unit))} {Q : Unit → Shared → Prop} (hot : HotX.HotAt A x1 s.heap) (ht : IsTup s.heap t items)
    (hn : targets.length = items.size) (hst : targets.findIdx? (·.1) = none)
    (h : ∀ h', Heap.ExtBut s.heap.objs.size s.heap h' → wpAny (model prog w) A (assignInOrder (targets.map (·.2)) items.toList) Q E { s with heap := h' }) : wpAny (model prog w) A (unpack (.ref t) targets) Q E s := by
  have hlt : t ≠ s.heap.objs.size := by
    obtain ⟨o, ho, _⟩ := ht
    exact Nat.ne_of_lt (Heap.lt_size ho)
  have hxl : x1 ≠ s.heap.objs.size := by
    obtain ⟨_, o, _, ho, _⟩ := hot
    exact Nat.ne_of_lt (Heap.lt_size ho)
  unfold unpack
  rw [hn, hst]
  refine wpAny_bind (wpAny_holding ?_)
  unfold unpackItems notIterableAtAll
  refine wpAny_bind (wpAny_bind (wpAny_specialOf ht.typeIs slot_tuple_iter.lookup (wpAny_pure ?_)))
  rw [if_neg Bool.false_ne_true]
  refine wpAny_bind (wpAny_holding (iter_tuple ht ?_))
  refine wpAny_bind (wpAny_holding (draw_tuple hlt items.size 0 _ _ ⟨_, Heap.get?_push_size _ rfl, rfl, rfl⟩ (ht.push _) (by omega) fun h₁ hit₁ hs₁ => ?_))
  have all : List.take items.size (List.drop 0 items.toList) = items.toList := by rw [List.drop_zero, List.take_of_length_le (by simp)]
  rw [all, if_neg (by simp)]
  have ht₁ : IsTup h₁ t items := (ht.push _).extBut hs₁.extBut hlt
  have hot₁ : HotX.HotAt A x1 h₁ := hot_go hot fun o e => (hs₁.2 x1 hxl).trans (Heap.get?_push_of_some _ e)
  refine wpAny_bind (wpAny_holding (tupEnd_hot (s := { s with heap := h₁ }) (j := items.size) hot₁ (show IsTupIter h₁ s.heap.objs.size t items.size by simpa using hit₁) ht₁ (by simp) fun g hg => ?_))
  simp only [Option.isSome_none, Bool.false_eq_true, if_false]
  exact wpAny_pure (h g fun b o hb e => hg b o hb ((hs₁.2 b hb).trans (Heap.get?_push_of_some _ e)))
end
section
variable {X : Cx} {pos : Pos}
theorem pg_tupH {es : List Expr} {k : Nat} {t : TGs} {n : Nat} (hc : HotC X) (h : PGs X es t) (hn : (assignEach es X.env).length = n := by rfl) (hst : (assignEach es X.env).findIdx? (·.1) = none := by rfl) : PG X (.Tuple es k pos) (gTup X.K n t) := by
  refine ⟨fun pins s σ H v u Q I r ⟨a, xs, ev, hq, hl, q⟩ => ?_⟩
  subst ev
  cases r
  obtain ⟨its, rv, ht, hz⟩ := I.tuple hq
  obtain ⟨x1, hot⟩ := hc.at I
  rw [assign_Tuple]
  refine wpAny_bind (wpAny_standAt (unpackH hot ht (by simp [hn, ← hl, rv.length]) hst fun h' hx => ?_))
  have J : Inv X pins σ H { s with heap := h' } := I.kept (t' := s.toks) fun b o e => hx b o (Nat.ne_of_lt (Heap.lt_size e)) e
  exact h.run pins _ σ H xs _ Q J (by simpa using rv) q
end
end Sk
namespace Sk
open PySem L2 L2H
theorem hu150H {A : Around} {k : Nat} (hr : RoomH k A) : A.units + 150 < cLine := by have := hr.un; omega
end Sk
set_option Elab.async false
set_option linter.all false
set_option maxRecDepth 100000
set_option maxHeartbeats 1000000
namespace Sk
open PySem PySem.Spec PyProof.Rows L2 L2H
theorem turn_listH {P : Program} {w : World} {K : PySem.W.Frag} {tg : Expr} (lp it : Addr) : TurnH P w K tg (Itl K lp) [it] it (fun j h => h.IsListIter it lp j) where
  mem := List.mem_cons_self
  obj := fun j h st b hb => by
    rw [List.mem_singleton.mp hb]
    obtain ⟨u, e, _, d⟩ := st
    exact ⟨u, e, fun v z => by rw [d] at z; cases z⟩
  keep := fun j h g st k => st.at fun u e => k it List.mem_cons_self u e
  item := by
    rintro X rfl rfl rfl hc j pins s σ H E I hf st ⟨ys, y, hy, hj⟩
    obtain ⟨its, rv, p, _⟩ := I.list hy
    obtain ⟨u, hu, ru⟩ := rv.get hj
    obtain ⟨f0, f1, _, f3, f4, f5⟩ := hf it List.mem_cons_self
    refine wpAny_pyNext_list_item st p.isList (x := u) (by simpa using hu) fun g sg sb => ?_
    have J : Inv X pins σ H { s with heap := g } := I.turned (t' := s.toks) (fun b v hb e => (sb.2 b hb).trans e) f0 f1 f3 f4 f5
    obtain ⟨v, e, c, d⟩ := id sg
    refine ⟨u, rfl, go_of (s := { s with heap := g }) e c d (by decide) ⟨y, H, J, ru, ⟨rfl, fun zs hz => ?_⟩, sg, fun b hb => (hf b hb).1⟩⟩
    rw [I.list_inj hz hy]
    exact hj
  done := by
    rintro X rfl rfl rfl hc j pins s σ H E I hf st ⟨ys, hy, hj⟩
    obtain ⟨its, rv, p, _⟩ := I.list hy
    obtain ⟨f0, f1, _, f3, f4, f5⟩ := hf it List.mem_cons_self
    obtain ⟨x1, hot⟩ := hc.at I
    have hl := rv.length
    exact lstEnd_hot hot st p.isList (by simp; omega) fun g hg => ⟨rfl, I.turned (t' := s.toks) hg f0 f1 f3 f4 f5⟩
  self := fun _ _ _ _ _ st h => wpAny_pyIter_listiter st h
section
variable {X : Cx} {tg : Expr}
theorem pi_listH {l : Expr} {tl : TE} (hl : PE X l tl) : PIH X tg l (iList X.K tl) := by
  refine ⟨fun pins s σ H R I h => thn (hl.run pins s σ H _ I h) fun v s1 ⟨x, H1, J, r1, lp, e, ⟨ys, hy⟩, q⟩ => ?_⟩
  subst e
  cases r1
  obtain ⟨its, rv, p, _⟩ := J.list hy
  refine wpAny_pyIter_list p.isList ⟨s1.heap.objs.size, [s1.heap.objs.size], _, _, H1, rfl, J.kept (t' := s1.toks) fun b u e => Heap.get?_push_of_some _ e, turn_listH lp _, ⟨_, Heap.get?_push_size _ rfl, rfl, rfl⟩, fun b hb => ?_, q⟩
  rw [List.mem_singleton.mp hb]
  exact J.fpOk (Nat.le_refl _) (J.hok.fresh (Nat.le_refl _))
end
end Sk
set_option Elab.async false
set_option linter.all false
set_option maxRecDepth 100000
set_option maxHeartbeats 2000000
namespace Sk
open PySem PySem.Spec PyProof.Rows L2 L2H
section
variable {X : Cx}
theorem coreH {pins : List (Addr × Obj)} {s : Shared} {σ : L2.St} {H : Hp} {Q : VK} {pos' : Pos} {use : Option (Value → Sem Unit)} {Qz : Value → Shared → Prop} {elt tg iter tg1 iter1 : Expr} {ifs ifs1 : List Expr} {scope : Scope} {own : List (Str × Nat)} {vs1 : List Nat} {pos : Pos} {wi wi1 : TI} {g g1 : TG} {tt tt1 : TT} {te : TE} (hc : HotC X) (hN : X.N.Nodup) (I : Inv X pins σ H s) (hi : PIH X tg iter wi) (ok : BlkOk X.N X.env.scope scope own) (hv : ∀ i ∈ vs1, i ∈ own.map (·.2))
    (hg : ∀ (s : Shared) (H : Hp) (C : Addr) (cl : List (Str × Addr)) (fp : List Addr), PG (blkH X s H scope (compEnvC scope cl C X.env) fp) tg g) (ht : ∀ (s : Shared) (H : Hp) (C : Addr) (cl : List (Str × Addr)) (fp : List Addr), PTs (blkH X s H scope (compEnvC scope cl C X.env) fp) ifs tt)
    (hi1 : ∀ (s : Shared) (H : Hp) (C : Addr) (cl : List (Str × Addr)) (fp : List Addr), PIH (blkH X s H scope (compEnvC scope cl C X.env) fp) tg1 iter1 wi1)
    (hg1 : ∀ (s : Shared) (H : Hp) (C : Addr) (cl : List (Str × Addr)) (fp : List Addr), PG (blkH X s H scope (compEnvC scope cl C X.env) fp) tg1 g1) (ht1 : ∀ (s : Shared) (H : Hp) (C : Addr) (cl : List (Str × Addr)) (fp : List Addr), PTs (blkH X s H scope (compEnvC scope cl C X.env) fp) ifs1 tt1)
    (he : ∀ (s : Shared) (H : Hp) (C : Addr) (cl : List (Str × Addr)) (fp : List Addr), PE (blkH X s H scope (compEnvC scope cl C X.env) fp) elt te) (hs : ∀ x, foldedSetIterable iter X.env x = pure x) (hs1 : ∀ env x, foldedSetIterable iter1 env x = pure x)
    (h : tLc2 wi g tt wi1 g1 tt1 te (own.map (·.2)) vs1 σ H Q) (hz : ∀ L C g m G, Inv X pins σ G g → Q (.ref L) G → g.heap.Ns C m → FpOk X pins G C → compPost (model X.prog X.w) X.A X.xe use Qz (.ref L) C (.ok .next) g) :
    wpAny (model X.prog X.w) X.A (comprehension (.ListComp elt [⟨tg, iter, ifs, 0⟩, ⟨tg1, iter1, ifs1, 0⟩] scope pos) scope X.env pos' (newList []) false (eval iter X.env) use) Qz X.xe s := by
  have hfree : ∀ y ∈ scope.names, y.2 = .free → ∃ c, X.env.cells.lookup y.1 = some c := fun y hy e => (ok.free y hy e).elim (fun k => I.ok.has _ (.inl k)) fun k => I.ok.has _ (.inr k)
  refine wpAny_comprehension_free (use := use) rfl hs (closure_ok hfree) ok.kind (fun y hy e => by rw [ok.uniq y hy, e]) (thn (hi.run pins s σ H _ I h) fun xv s1 hx => thn hx fun itv s2 ⟨it, fp, tn, J, H2, ei, I2, T, st2, f2, q⟩ => ?_)
  subst ei
  refine wpAny_newObj_type (newEnv_comp ?_) (by show 0 ≤ sizeLine; decide)
  -- the list to be, and the state with it
  obtain ⟨L, hL⟩ : ∃ L, s2.heap.objs.size = L := ⟨_, rfl⟩
  obtain ⟨W, ⟨m0, w0⟩, turn⟩ := q L (I2.hok.fresh (Nat.le_of_eq hL))
  obtain ⟨s3, hs3⟩ : ∃ s3 : Shared, ({ s2 with heap := s2.heap.push { cls := .type "list", data := .seq ([] : List Value).toArray } } : Shared) = s3 := ⟨_, rfl⟩
  have push3 : ∀ (b : Addr) (u : Obj), s2.heap.get? b = some u → s3.heap.get? b = some u := fun b u e => by rw [← hs3]; exact Heap.get?_push_of_some _ e
  have size3 : s2.heap.objs.size < s3.heap.objs.size := by rw [← hs3]; show _ < (s2.heap.push _).objs.size; rw [Heap.size_push]; exact Nat.lt_succ_self _
  have I3 : Inv X pins σ (upd H2 L (.lst [])) s3 := by
    rw [← hs3]
    exact I2.laid (t' := s2.toks) (fun b u e => Heap.get?_push_of_some _ e) (Nat.le_of_eq hL) ⟨Nat.zero_le _, [], 0, .nil, by rw [← hL]; exact Heap.get?_push_size _ rfl⟩
  have small : ∀ b ∈ fp, b < s2.heap.objs.size := fun b hb => (T.obj _ _ st2 b hb).elim fun u z => Heap.lt_size z.1
  have f3 : ∀ b ∈ fp, FpOk X pins (upd H2 L (.lst [])) b ∧ b < s3.heap.objs.size := fun b hb =>
    ⟨⟨by rw [upd_ne (by rw [← hL]; exact Nat.ne_of_lt (small b hb))]; exact (f2 b hb).1, (f2 b hb).2⟩, Nat.lt_trans (small b hb) size3⟩
  have I4 := startH I3 ok hN f3
  have pg := hg s3 (upd H2 L (.lst [])) s3.heap.objs.size (cellsFrom (s3.heap.objs.size + 1) scope.names (cloFrom X.env.cells scope.names [])) fp
  have pt := ht s3 (upd H2 L (.lst [])) s3.heap.objs.size (cellsFrom (s3.heap.objs.size + 1) scope.names (cloFrom X.env.cells scope.names [])) fp
  have pe := he s3 (upd H2 L (.lst [])) s3.heap.objs.size (cellsFrom (s3.heap.objs.size + 1) scope.names (cloFrom X.env.cells scope.names [])) fp
  have pii := hi1 s3 (upd H2 L (.lst [])) s3.heap.objs.size (cellsFrom (s3.heap.objs.size + 1) scope.names (cloFrom X.env.cells scope.names [])) fp
  have pgi := hg1 s3 (upd H2 L (.lst [])) s3.heap.objs.size (cellsFrom (s3.heap.objs.size + 1) scope.names (cloFrom X.env.cells scope.names [])) fp
  have pti := ht1 s3 (upd H2 L (.lst [])) s3.heap.objs.size (cellsFrom (s3.heap.objs.size + 1) scope.names (cloFrom X.env.cells scope.names [])) fp
  rw [hs3, hL]
  obtain ⟨ce, hce⟩ : ∃ ce, compEnvC scope (cellsFrom (s3.heap.objs.size + 1) scope.names (cloFrom X.env.cells scope.names [])) s3.heap.objs.size X.env = ce := ⟨_, rfl⟩
  have cL : ce.locals = s3.heap.objs.size := by rw [← hce]; rfl
  obtain ⟨Qf, hQf⟩ : ∃ Qf, Qf = compPost (model X.prog X.w) X.A X.xe use Qz (.ref L) s3.heap.objs.size := ⟨_, rfl⟩
  suffices hgoal : codeAny (model X.prog X.w) X.A (.compStart (.ListComp elt [⟨tg, iter, ifs, 0⟩, ⟨tg1, iter1, ifs1, 0⟩] scope pos) 0 (.ref it) (.ref L) ce) Qf { s3 with heap := pushCells (s3.heap.push { cls := .type "dict", data := .dict #[] }) scope.names } by
    rw [hQf, ← hce] at hgoal
    exact hgoal
  rw [hce] at I4 pg pt pe pii pgi pti
  obtain ⟨H3, hH3⟩ : ∃ H3, upd H2 L (.lst []) = H3 := ⟨_, rfl⟩
  rw [hH3] at I3 I4 pg pt pe pii pgi pti w0 f3
  obtain ⟨s4, hs4⟩ : ∃ s4 : Shared, ({ s3 with heap := pushCells (s3.heap.push { cls := .type "dict", data := .dict #[] }) scope.names } : Shared) = s4 := ⟨_, rfl⟩
  rw [hs4] at I4 ⊢
  have st4 : tn 0 s4.heap := T.keep _ _ _ st2 fun b _ u e => by rw [← hs4]; exact pushCells_keeps _ _ _ _ (Heap.get?_push_of_some _ (push3 b u e))
  have fB : ∀ b ∈ fp, FpOk X pins H3 b := fun b hb => (f3 b hb).1
  have loop : codeAny (model X.prog X.w) X.A (.compLoop (.ListComp elt [⟨tg, iter, ifs, 0⟩, ⟨tg1, iter1, ifs1, 0⟩] scope pos) 0 (.ref it) (.ref L) ce) Qf s4 := by
    refine compLoop2_out (hs1 ce) (fun n s' => ∃ j H', Inv (blkH X s3 H3 scope ce fp) [] (wipe σ (own.map (·.2))) H' s' ∧ tn j s'.heap ∧ (∀ b ∈ fp, H' b = none) ∧ W j n H') ?_ m0 ⟨0, H3, I4, st4, fun b hb => (fB b hb).1, w0⟩
    rintro n s5 ⟨j, H5, I5, st5, n5, w5⟩
    rcases turn j n H5 w5 with ⟨stop, qq⟩ | ⟨go, Nx, hNx, step⟩
    · refine thnF (T.done (blkH X s3 H3 scope ce fp) rfl rfl rfl hc j [] s5 _ H5 (fun _ _ => False) I5 (fpH fB I5 n5) st5 stop) fun r s6 ⟨hr, I6⟩ => ?_
      subst hr
      have I7 : Inv X pins σ H5 s6 := I3.call' (ch := fp) I6.os I6.base I6.hok I6.bare fun b hb => ⟨(fB b hb).2.2.2.1, (fB b hb).2.1, (fB b hb).2.2.2.2.1, (fB b hb).2.2.2.2.2⟩
      have nC : H5 s3.heap.objs.size = none := by rw [← cL]; exact I6.free
      obtain ⟨m, hn, _⟩ := I6.loc
      have hn : s6.heap.Ns ce.locals m := hn
      rw [cL] at hn
      rw [hQf]
      exact hz L s3.heap.objs.size s6 m H5 I7 qq hn (I3.fpOk (Nat.le_refl _) nC)
    · refine thnF (T.item (blkH X s3 H3 scope ce fp) rfl rfl rfl hc j [] s5 _ H5 (fun _ _ => False) I5 (fpH fB I5 n5) st5 go) fun r s6 ⟨u, hr, h6⟩ => ?_
      subst hr
      refine thnF h6 fun _ s7 ⟨x, H7, I7, r7, y7, st7, n7⟩ => ?_
      refine thnF (pg.run _ s7 _ H7 x u _ (I7.pinned (fpH fB I7 n7) (T.obj _ _ st7)) r7 (step x H7 y7)) fun _ s8 ⟨σ8, H8, I8, hw8, q8⟩ => ?_
      -- how a turn ends
      have fin : ∀ {σ9 : L2.St} {s' : Shared} {H' : Hp}, Inv (blkH X s3 H3 scope ce fp) ([] ++ pinsAt fp s7.heap) σ9 H' s' → (wipe σ (own.map (·.2))).length = σ9.length → (∀ (i : Nat) v, (wipe σ (own.map (·.2)))[i]? = some (some v) → σ9[i]? = some (some v)) → Nx H' → ∃ m, m < n ∧ ∃ j H', Inv (blkH X s3 H3 scope ce fp) [] (wipe σ (own.map (·.2))) H' s' ∧ tn j s'.heap ∧ (∀ b ∈ fp, H' b = none) ∧ W j m H' := fun {σ9 s' H'} J' hl hk nx => by
        obtain ⟨m', hm, w'⟩ := hNx H' nx
        have stay : ∀ b ∈ fp, ∀ u, s7.heap.get? b = some u → s'.heap.get? b = some u ∧ H' b = none := fun b hb u e => by
          obtain ⟨z1, z2, _⟩ := J'.pin (b, u) (List.mem_append_right _ (List.mem_append_right _ (mem_pinsAt hb e)))
          exact ⟨z1, z2⟩
        refine ⟨m', hm, j + 1, H', (J'.unpinned (pins := [])).weak hl hk, T.keep _ _ _ st7 fun b hb u e => (stay b hb u e).1, fun b hb => ?_, w'⟩
        obtain ⟨u, e, _⟩ := T.obj _ _ st7 b hb
        exact (stay b hb u e).2
      have ln8 : (wipe σ (own.map (·.2))).length = σ8.length := by rw [← hw8, wipe_length]
      have kn8 : ∀ (i : Nat) v, (wipe σ (own.map (·.2)))[i]? = some (some v) → σ8[i]? = some (some v) := fun i v e => (wipe_some (by rw [hw8]; exact e)).1
      have kn9 : ∀ (i : Nat) v, (wipe σ (own.map (·.2)))[i]? = some (some v) → (wipe σ8 vs1)[i]? = some (some v) := fun i v e => by
        obtain ⟨z1, z2⟩ := wipe_some (σ := σ8) (by rw [hw8]; exact e)
        rw [wipe_out fun z => z2 (hv i z)]
        exact z1
      refine thnF (pt.run _ s8 σ8 H8 _ I8 q8) fun b s9 ⟨H9, I9, q9⟩ => ?_
      cases b with
      | false =>
        rw [if_neg Bool.false_ne_true] at q9 ⊢
        exact fin I9 ln8 kn8 q9
      | true =>
        rw [if_pos rfl] at q9 ⊢
        refine thnF (pii.run _ s9 σ8 H9 _ I9 q9) fun xu s10 hx => thnF hx fun iu s11 ⟨it1, fp1, tn1, J1, H11, ei1, I11, T1, st11, f11, W1, ⟨m1, w1⟩, turn1⟩ => ?_
        subst ei1
        have at1 : ∀ {G : Hp}, (∀ b ∈ fp1, G b = none) → ∀ b ∈ fp1, FpOk (blkH X s3 H3 scope ce fp) ([] ++ pinsAt fp s7.heap) G b := fun hn b hb => ⟨hn b hb, (f11 b hb).2⟩
        have go1 : codeAny (model X.prog X.w) X.A (.compLoop (.ListComp elt [⟨tg, iter, ifs, 0⟩, ⟨tg1, iter1, ifs1, 0⟩] scope pos) 1 (.ref it1) (.ref L) ce)
            (fun r g => match r with
              | .ok _ => ∃ m, m < n ∧ ∃ j H', Inv (blkH X s3 H3 scope ce fp) [] (wipe σ (own.map (·.2))) H' g ∧ tn j g.heap ∧ (∀ b ∈ fp, H' b = none) ∧ W j m H'
              | .error _ => False) s11 := by
          refine compLoop2_in (fun k g => ∃ j H', Inv (blkH X s3 H3 scope ce fp) ([] ++ pinsAt fp s7.heap) (wipe σ8 vs1) H' g ∧ tn1 j g.heap ∧ (∀ b ∈ fp1, H' b = none) ∧ W1 j k H') ?_ m1 ⟨0, H11, I11.weak (wipe_length _ _) (fun i v e => (wipe_some e).1), st11, fun b hb => (f11 b hb).1, w1⟩
          rintro k s12 ⟨i, H12, I12, st12, n12, w12⟩
          rcases turn1 i k H12 w12 with ⟨stop1, nx1⟩ | ⟨on1, Ny, hNy, step1⟩
          · refine thnF (T1.done (blkH X s3 H3 scope ce fp) rfl rfl rfl hc i _ s12 (wipe σ8 vs1) H12 (fun _ _ => False) I12 (at1 n12) st12 stop1) fun r s13 ⟨hr1, I13⟩ => ?_
            subst hr1
            exact fin I13 (ln8.trans (wipe_length σ8 vs1).symm) kn9 nx1
          · refine thnF (T1.item (blkH X s3 H3 scope ce fp) rfl rfl rfl hc i _ s12 (wipe σ8 vs1) H12 (fun _ _ => False) I12 (at1 n12) st12 on1) fun r s13 ⟨u1, hr1, h13⟩ => ?_
            subst hr1
            refine thnF h13 fun _ s14 ⟨x1, H14, I14, r14, y14, st14, n14⟩ => ?_
            refine thnF (pgi.run _ s14 (wipe σ8 vs1) H14 x1 u1 _ (I14.pinned (at1 n14) (T1.obj _ _ st14)) r14 (step1 x1 H14 y14)) fun _ s15 ⟨σ15, H15, I15, hw15, q15⟩ => ?_
            have fin1 : ∀ {g : Shared} {G : Hp}, Inv (blkH X s3 H3 scope ce fp) (([] ++ pinsAt fp s7.heap) ++ pinsAt fp1 s14.heap) σ15 G g → Ny G → ∃ m, m < k ∧ ∃ j H', Inv (blkH X s3 H3 scope ce fp) ([] ++ pinsAt fp s7.heap) (wipe σ8 vs1) H' g ∧ tn1 j g.heap ∧ (∀ b ∈ fp1, H' b = none) ∧ W1 j m H' := fun {g G} J' nx => by
              obtain ⟨m', hm, w'⟩ := hNy G nx
              have stay : ∀ b ∈ fp1, ∀ u, s14.heap.get? b = some u → g.heap.get? b = some u ∧ G b = none := fun b hb u e => by
                obtain ⟨z1, z2, _⟩ := J'.pin (b, u) (List.mem_append_right _ (List.mem_append_right _ (mem_pinsAt hb e)))
                exact ⟨z1, z2⟩
              refine ⟨m', hm, i + 1, G, J'.unpinned.weak (by rw [← hw15, wipe_length]) (fun i v e => (wipe_some (by rw [hw15]; exact e)).1), T1.keep _ _ _ st14 fun b hb u e => (stay b hb u e).1, fun b hb => ?_, w'⟩
              obtain ⟨u, e, _⟩ := T1.obj _ _ st14 b hb
              exact (stay b hb u e).2
            refine thnF (pti.run _ s15 σ15 H15 _ I15 q15) fun b1 s16 ⟨H16, I16, q16⟩ => ?_
            cases b1 with
            | false =>
              rw [if_neg Bool.false_ne_true] at q16 ⊢
              exact fin1 I16 q16
            | true =>
              rw [if_pos rfl] at q16 ⊢
              exact thnF (pe.run _ s16 σ15 H16 _ I16 q16) fun z s17 ⟨yv, H17, I17, r17, acc, hL17, hz17, nx⟩ => app_ok (X := blkH X s3 H3 scope ce fp) I17 hL17 hz17 r17 fun s18 I18 => fin1 I18 nx
        exact compStart1_ok go1 (T1.self X.A 0 _ _ _ st11 go1)
  exact codeAny_compStart_list loop (T.self X.A 0 _ _ _ st4 loop)
theorem ps_setLc2H {i : Nat} {y : Str} {py spos : Pos} {elt tg iter tg1 iter1 : Expr} {ifs ifs1 : List Expr} {scope : Scope} {own : List (Str × Nat)} {vs1 : List Nat} {pos : Pos} {wi wi1 : TI} {g g1 : TG} {tt tt1 : TT} {te : TE} (hc : HotC X) (hN : X.N.Nodup) (hy : X.N[i]? = some y) (hyl : X.env.scope.names.lookup y = some .local)
    (hsw : swapsWith (.ListComp elt [⟨tg, iter, ifs, 0⟩, ⟨tg1, iter1, ifs1, 0⟩] scope pos) (some (.Name y py)) spos.line X.env = pure true)
    (hi : PIH X tg iter wi) (ok : BlkOk X.N X.env.scope scope own) (hv : ∀ i ∈ vs1, i ∈ own.map (·.2))
    (hg : ∀ (s : Shared) (H : Hp) (C : Addr) (cl : List (Str × Addr)) (fp : List Addr), PG (blkH X s H scope (compEnvC scope cl C X.env) fp) tg g) (ht : ∀ (s : Shared) (H : Hp) (C : Addr) (cl : List (Str × Addr)) (fp : List Addr), PTs (blkH X s H scope (compEnvC scope cl C X.env) fp) ifs tt)
    (hi1 : ∀ (s : Shared) (H : Hp) (C : Addr) (cl : List (Str × Addr)) (fp : List Addr), PIH (blkH X s H scope (compEnvC scope cl C X.env) fp) tg1 iter1 wi1)
    (hg1 : ∀ (s : Shared) (H : Hp) (C : Addr) (cl : List (Str × Addr)) (fp : List Addr), PG (blkH X s H scope (compEnvC scope cl C X.env) fp) tg1 g1) (ht1 : ∀ (s : Shared) (H : Hp) (C : Addr) (cl : List (Str × Addr)) (fp : List Addr), PTs (blkH X s H scope (compEnvC scope cl C X.env) fp) ifs1 tt1)
    (he : ∀ (s : Shared) (H : Hp) (C : Addr) (cl : List (Str × Addr)) (fp : List Addr), PE (blkH X s H scope (compEnvC scope cl C X.env) fp) elt te) (hs : ∀ x, foldedSetIterable iter X.env x = pure x := by intro _; rfl) (hs1 : ∀ env x, foldedSetIterable iter1 env x = pure x := by intro _ _; rfl) :
    PS X (.Assign [.Name y py] (.ListComp elt [⟨tg, iter, ifs, 0⟩, ⟨tg1, iter1, ifs1, 0⟩] scope pos) spos) (tAsg (tLc2 wi g tt wi1 g1 tt1 te (own.map (·.2)) vs1) (gName i)) := by
  refine ⟨fun pins s σ H D I h => ?_⟩
  rw [exec_Assign_Name_used _ _ _ _ hsw]
  have q0 : tLc2 wi g tt wi1 g1 tt1 te (own.map (·.2)) vs1 σ H (fun x G => gName i x σ G D.nx) := h
  refine wpAny_bind (wpAny_standAt (wpAny_bind (wpAny_bind (thn (coreH (Qz := fun _ g => SP X pins D .next g) hc hN I hi ok hv hg ht hi1 hg1 ht1 he hs hs1 q0 fun L C g m G J q hn f => ?_) fun _ g hq => wpAny_pure (wpAny_pure hq)))))
  show wpAny _ _ (assign (.Name y py) X.env (.ref L)) _ _ _
  refine wpAny_assign_Name (store_ok2 (v := V.ref L) J hN hy (.inl hyl) rfl (fun g2 J2 ⟨a, sb, ha⟩ => ?_) (.inr hyl))
  obtain ⟨f0, f1, _, f3, f4, f5⟩ := f
  have no : C ≠ a := by
    rcases ha with z | z
    · rw [z]; exact f1
    · exact fun e => f4 y a z e.symm
  exact ⟨m, hn.sameBut sb no, fun g3 sb3 => ⟨_, G, J2.turned (t' := g2.toks) (fun b u hb e => (sb3.2 b hb).trans e) f0 f1 f3 f4 f5, q⟩⟩
end
end Sk
set_option Elab.async false
set_option linter.all false
set_option maxRecDepth 100000
set_option maxHeartbeats 1000000
namespace Sk
open PySem PySem.Spec PyProof.Rows L2 L2H
section
variable {prog : Program} {w : World} {A : Around} {E : Value → Shared → Prop} {s : Shared}
def IsStop (g : Heap) (e : Addr) : Prop := ∃ o, g.get? e = some o ∧ o.cls = .type "StopIteration"
theorem stop_out {x1 : Addr} {Qv : PySem.Fin → Shared → Prop} (hot : HotX.HotAt A x1 s.heap) (hE : ∀ g e, (∀ b u, s.heap.get? b = some u → g.get? b = some u) → IsStop g e → E (.ref e) { s with heap := g }) :
    wpAny (model prog w) A Builtin.SmallTypes.stopIteration Qv E s := by
  obtain ⟨hh, o1, v1, h1, d1, c1⟩ := hot
  have keep2 : ∀ (o2 o3 : Obj) (b : Addr) (u : Obj), s.heap.get? b = some u → ((s.heap.push o2).push o3).get? b = some u := fun o2 o3 b u e => Heap.get?_push_of_some _ (Heap.get?_push_of_some _ e)
  unfold Builtin.SmallTypes.stopIteration
  refine wpAny_bind ?_
  simp only [newExc, newTuple]
  refine wpAny_bind (wpAny_newObj_type ?_ (by size_fits))
  refine wpAny_bind (m := firstArgMember _ _) (wpAny_of_eq (a := Value.none) (by first | rfl | (simp only [firstArgMember]; rfl)) ?_)
  refine wpAny_newObj_type ?_ (by size_fits)
  refine HotX.raiseNew_hot (x1 := x1) ⟨hh, o1, v1, keep2 _ _ _ _ h1, d1, c1⟩ (Nat.ne_of_lt (Heap.lt_size (Heap.get?_push_of_some _ h1))) (Heap.get?_push_size _ rfl) rfl (by first | (simp; done) | (simp; omega)) (hE _ _ (fun b u e => ?_) ⟨_, Heap.get?_update_self _ (Heap.get?_push_size _ rfl) rfl, rfl⟩)
  rw [Heap.get?_update_other _ _ (Nat.ne_of_gt (Heap.lt_size (Heap.get?_push_of_some _ e)))]
  exact keep2 _ _ b u e
/-- an iterator is at its end, whatever else the heap holds -/
theorem tupOut {it tp x1 : Addr} {j : Nat} {ws : Array Value} {Q : Value → Shared → Prop} (hot : HotX.HotAt A x1 s.heap) (hit : s.heap.IsTupleIter it tp j) (htp : s.heap.IsTuple tp ws) (hw : ws[j]? = none)
    (hE : ∀ g e, (∀ b u, b ≠ it → s.heap.get? b = some u → g.get? b = some u) → IsStop g e → E (.ref e) { s with heap := g }) : wpAny (model prog w) A (Builtin.SmallTypes.nextOf (.ref it)) Q E s := by
  have hT := hit.typeIs
  obtain ⟨oi, hoi, _, hdi⟩ := hit
  obtain ⟨ot, hot2, _, nt, hdt⟩ := htp
  have hne : x1 ≠ it := hot_ne hot hoi hdi rfl
  have no : ¬ (Value.ref tp == Value.none) = true := fun z => Bool.noConfusion (show false = true from z)
  unfold Builtin.SmallTypes.nextOf
  refine wpAny_bind (wpAny_callSpecial?_slot (name := Str.ofString "__next__") hT F.slot_tuple_iterator_next (wpAny_call_entry F.slot_tuple_iterator_next hT F.entry_tuple_iterator_next ?_ (F.args_tuple_iterator_next_1 _)))
  show wpAny _ (Around.in1 A) (field (Value.ref it) 0 >>= _) _ _ s
  refine wpAny_bind (wpAny_field hoi hdi (x := .ref tp) rfl ?_)
  show wpAny _ (Around.in1 A) (if (Value.ref tp == Value.none) = true then _ else _) _ _ s
  rw [if_neg no]
  show wpAny _ (Around.in1 A) (field (Value.ref it) 1 >>= _) _ _ s
  refine wpAny_bind (wpAny_field hoi hdi (x := .int j 0) rfl ?_)
  show wpAny _ (Around.in1 A) (seqItems? (Value.ref tp) >>= _) _ _ s
  refine wpAny_bind (wpAny_seqItems hot2 hdt ?_)
  simp only [Int.toNat_natCast, hw]
  refine wpAny_bind (wpAny_rule (wpAny_bind (wpAny_setField hoi hdi (by simp) ?_)))
  refine stop_out (A := A.in1) (x1 := x1) (hot_keep hot hne) fun g e hg he => hE g e (fun b u hb q => hg b u ?_) he
  show (s.heap.update it _).get? b = some u
  rw [Heap.get?_update_other _ _ (Ne.symm hb)]
  exact q
theorem lstOut {it lp x1 : Addr} {j : Nat} {ws : Array Value} {Q : Value → Shared → Prop} (hot : HotX.HotAt A x1 s.heap) (hit : s.heap.IsListIter it lp j) (hlp : s.heap.IsList lp ws) (hw : ws[j]? = none)
    (hE : ∀ g e, (∀ b u, b ≠ it → s.heap.get? b = some u → g.get? b = some u) → IsStop g e → E (.ref e) { s with heap := g }) : wpAny (model prog w) A (Builtin.SmallTypes.nextOf (.ref it)) Q E s := by
  have hT := hit.typeIs
  obtain ⟨oi, hoi, _, hdi⟩ := hit
  obtain ⟨ot, hot2, _, nt, hdt⟩ := hlp
  have hne : x1 ≠ it := hot_ne hot hoi hdi rfl
  have no : ¬ (Value.ref lp == Value.none) = true := fun z => Bool.noConfusion (show false = true from z)
  unfold Builtin.SmallTypes.nextOf
  refine wpAny_bind (wpAny_callSpecial?_slot (name := Str.ofString "__next__") hT slot_listiter_next (wpAny_call_entry slot_listiter_next hT entry_listiter_next ?_ (args_listiter_next _)))
  show wpAny _ (Around.in1 A) (field (Value.ref it) 0 >>= _) _ _ s
  refine wpAny_bind (wpAny_field hoi hdi (x := .ref lp) rfl ?_)
  show wpAny _ (Around.in1 A) (if (Value.ref lp == Value.none) = true then _ else _) _ _ s
  rw [if_neg no]
  show wpAny _ (Around.in1 A) (field (Value.ref it) 1 >>= _) _ _ s
  refine wpAny_bind (wpAny_field hoi hdi (x := .int j 0) rfl ?_)
  show wpAny _ (Around.in1 A) (seqItems? (Value.ref lp) >>= _) _ _ s
  refine wpAny_bind (wpAny_seqItems hot2 hdt ?_)
  simp only [Int.toNat_natCast, hw]
  refine wpAny_bind (wpAny_rule (wpAny_bind (wpAny_setField hoi hdi (by simp) ?_)))
  refine stop_out (A := A.in1) (x1 := x1) (hot_keep hot hne) fun g e hg he => hE g e (fun b u hb q => hg b u ?_) he
  show (s.heap.update it _).get? b = some u
  rw [Heap.get?_update_other _ _ (Ne.symm hb)]
  exact q
/-- an iterator's next step, out of any heap that still holds it: an end, an item -/
def EndsAt (prog : Program) (w : World) (A : Around) (s : Shared) (it : Addr) (ok : Heap → Prop) : Prop := ∀ (g : Heap), ok g → ∀ (Q : Value → Shared → Prop) (E : Value → Shared → Prop),
  (∀ g' e, (∀ c o, c ≠ it → g.get? c = some o → g'.get? c = some o) → IsStop g' e → E (.ref e) { s with heap := g' }) → wpAny (model prog w) A (Builtin.SmallTypes.nextOf (.ref it)) Q E { s with heap := g }
def ItemAt (prog : Program) (w : World) (A : Around) (s : Shared) (it : Addr) (x : Value) (ok : Heap → Prop) : Prop := ∀ (g : Heap), ok g → ∀ (Q : Value → Shared → Prop) (E : Value → Shared → Prop),
  (∀ g', (∀ c o, c ≠ it → g.get? c = some o → g'.get? c = some o) → Q x { s with heap := g' }) → wpAny (model prog w) A (Builtin.SmallTypes.nextOf (.ref it)) Q E { s with heap := g }
def But1 (h : Heap) (z : Addr) (g : Heap) : Prop := ∀ c o, c ≠ z → h.get? c = some o → g.get? c = some o
def But3 (h : Heap) (z y x : Addr) (g : Heap) : Prop := ∀ c o, c ≠ z → c ≠ y → c ≠ x → h.get? c = some o → g.get? c = some o
theorem zipOut {z TI TO i1 i2 : Addr} {a b : Value} {Q : PySem.Fin → Shared → Prop} (nz : TO ≠ z ∧ i1 ≠ z ∧ i2 ≠ z) (nT : TO ≠ i1 ∧ TO ≠ i2 ∧ i1 ≠ i2) (hz : IsZip s.heap z TI TO .none) (hTI : IsPair s.heap TI (.ref i1) (.ref i2)) (hTO : IsPair s.heap TO a b)
    (hend : EndsAt prog w A s i1 (But1 s.heap z) ∨ ∃ x, ItemAt prog w A s i1 x (But1 s.heap z) ∧ EndsAt prog w A s i2 (But3 s.heap z i1 TO))
    (hE : ∀ g e, (∀ c o, c ≠ z → c ≠ TO → c ≠ i1 → c ≠ i2 → s.heap.get? c = some o → g.get? c = some o) → IsStop g e → E (.ref e) { s with heap := g }) :
    wpAny (model prog w) A (Builtin.«zip.__next__» ⟨[.ref z], []⟩) Q E s := by
  obtain ⟨z1, z2, z3⟩ := nz
  obtain ⟨t1, t2, t3⟩ := nT
  show wpAny _ _ (field (.ref z) 2 >>= _) _ _ s
  refine wpAny_bind (wpAny_field hz rfl (x := .bool false) rfl ?_)
  show wpAny _ _ (field (.ref z) 3 >>= _) _ _ s
  refine wpAny_bind (wpAny_field hz rfl (x := .ref TI) rfl (wpAny_bind (wpAny_seqItems hTI rfl ?_)))
  show wpAny _ _ (Builtin.SmallTypes.ownedTupleIsFree (.ref z) >>= _) _ _ s
  unfold Builtin.SmallTypes.ownedTupleIsFree
  refine wpAny_bind (wpAny_bind (wpAny_field hz rfl (x := .none) rfl (wpAny_pure ?_)))
  simp only [if_true]
  refine wpAny_bind (wpAny_rule (wpAny_bind (wpAny_field hz rfl (x := .ref TO) rfl (wpAny_bind (wpAny_setField_rec hz (by simp) fun g1 hz1 s1 => ?_)))))
  have hz1 : IsZip g1 z TI TO .ellipsis := hz1
  have k1 : But1 s.heap z g1 := fun c o n e => s1.extBut c o n e
  refine wpAny_bind ?_
  simp only [List.zipIdx_cons, List.zipIdx_nil, List.forIn_cons, List.forIn_nil]
  refine wpAny_bind (wpAny_bind (wpAny_onRaise ?_))
  show wpAny _ _ (Builtin.SmallTypes.nextOf (.ref i1) >>= _) _ _ _
  rcases hend with e1 | ⟨x, m1, e2⟩
  · refine wpAny_bind (e1 g1 k1 _ _ fun g2 e k2 st => ?_)
    obtain ⟨oe, hoe, hce⟩ := st
    have hz2 : IsZip g2 z TI TO .ellipsis := k2 z _ (Ne.symm z2) hz1
    have ne : e ≠ z := fun q => by
      rw [q, hz2] at hoe
      cases hoe
      simp at hce
    exact wpAny_setField_rec hz2 (by simp) fun g3 _ s3 => hE g3 e (fun c o n1 _ n3 _ q => s3.extBut c o n1 (k2 c o n3 (k1 c o n1 q))) ⟨oe, s3.extBut _ _ ne hoe, hce⟩
  · refine wpAny_bind (m1 g1 k1 _ _ fun g2 k2 => wpAny_pure ?_)
    have hT2 : IsPair g2 TO a b := k2 TO _ t1 (k1 TO _ z1 hTO)
    refine wpAny_bind (wpAny_seqItems hT2 rfl (wpAny_bind (wpAny_updateSeq_pair hT2 fun g3 hT3 s3 => ?_)))
    refine wpAny_bind (wpAny_letGo (wpAny_pure ?_))
    refine wpAny_bind (wpAny_bind (wpAny_onRaise ?_))
    show wpAny _ _ (Builtin.SmallTypes.nextOf (.ref i2) >>= _) _ _ _
    have k3 : But3 s.heap z i1 TO g3 := fun c o n1 n2 n3 q => s3.extBut c o n3 (k2 c o n2 (k1 c o n1 q))
    refine wpAny_bind (e2 g3 k3 _ _ fun g4 e k4 st => ?_)
    obtain ⟨oe, hoe, hce⟩ := st
    have hz4 : IsZip g4 z TI TO .ellipsis := k4 z _ (Ne.symm z3) (s3.extBut z _ (Ne.symm z1) (k2 z _ (Ne.symm z2) hz1))
    have ne : e ≠ z := fun q => by
      rw [q, hz4] at hoe
      cases hoe
      simp at hce
    exact wpAny_setField_rec hz4 (by simp) fun g5 _ s5 => hE g5 e (fun c o n1 n2 n3 n4 q => s5.extBut c o n1 (k4 c o n4 (k3 c o n1 n3 n2 q))) ⟨oe, s5.extBut _ _ ne hoe, hce⟩
theorem next_zipOut {z TI TO i1 i2 : Addr} {a b : Value} {Q : Option Value → Shared → Prop} (nz : TO ≠ z ∧ i1 ≠ z ∧ i2 ≠ z) (nT : TO ≠ i1 ∧ TO ≠ i2 ∧ i1 ≠ i2) (hz : IsZip s.heap z TI TO .none) (hTI : IsPair s.heap TI (.ref i1) (.ref i2)) (hTO : IsPair s.heap TO a b)
    (hend : EndsAt prog w A.in1 s i1 (But1 s.heap z) ∨ ∃ x, ItemAt prog w A.in1 s i1 x (But1 s.heap z) ∧ EndsAt prog w A.in1 s i2 (But3 s.heap z i1 TO))
    (hQ : ∀ g, (∀ c o, c ≠ z → c ≠ TO → c ≠ i1 → c ≠ i2 → s.heap.get? c = some o → g.get? c = some o) → Q none { s with heap := g }) : wpAny (model prog w) A (pyNext (.ref z)) Q E s := by
  have hT : s.TypeIs (.ref z) "zip" := ⟨_, hz, rfl⟩
  unfold pyNext
  refine wpAny_bind (wpAny_attempt (wpAny_callSpecial?_slot (name := Str.ofString "__next__") hT F.slot_zip_next (wpAny_call_entry F.slot_zip_next hT F.entry_zip_next (zipOut nz nT hz hTI hTO hend fun g e hk st => ?_) (F.args_zip_next_1 _))))
  obtain ⟨o, ho, hc⟩ := st
  exact wpAny_bind (wpAny_isInstance (T := "StopIteration") (b := true) ⟨o, ho, hc⟩ isSubtype_stop (wpAny_pure (hQ g hk)))
end
end Sk
set_option Elab.async false
set_option linter.all false
set_option maxRecDepth 100000
set_option maxHeartbeats 1000000
namespace Sk
open PySem PySem.Spec PyProof.Rows L2 L2H
theorem five {c z y x v u : Addr} : c ∈ [z, y, x, v, u] ↔ c = z ∨ c = y ∨ c = x ∨ c = v ∨ c = u := by simp
theorem tupAt {h g : Heap} {a : Addr} {ws : Array Value} (p : IsTup h a ws) (k : ∀ o, h.get? a = some o → g.get? a = some o) : g.IsTuple a ws := let ⟨o, e, r⟩ := p; ⟨o, k o e, r⟩
theorem lstAt {h g : Heap} {a : Addr} {ws : Array Value} (p : PlainL h a ws) (k : ∀ o, h.get? a = some o → g.get? a = some o) : g.IsList a ws := let ⟨o, e, r⟩ := p.isList; ⟨o, k o e, r⟩
theorem turn_zipTH {P : Program} {w : World} {K : PySem.W.Frag} {es : List Expr} {kk : Nat} {tp : Pos} {a b z TI TO i1 i2 : Addr} (D : ZipApart z TI TO i1 i2 a b) :
    TurnH P w K (.Tuple es kk tp) (RZ.ItzT K a b) [z, TI, TO, i1, i2] z (fun j h => IsZip h z TI TO .none ∧ IsPair h TI (.ref i1) (.ref i2) ∧ (∃ x y, IsPair h TO x y) ∧ h.IsTupleIter i1 a j ∧ h.IsTupleIter i2 b j) where
  mem := List.mem_cons_self
  obj := fun j h ⟨hz, hI, ⟨x, y, hO⟩, ⟨o1, e1, _, d1⟩, ⟨o2, e2, _, d2⟩⟩ c hc => by
    rcases five.mp hc with rfl | rfl | rfl | rfl | rfl
    · exact ⟨_, hz, fun v q => nomatch q⟩
    · exact ⟨_, hI, fun v q => nomatch q⟩
    · exact ⟨_, hO, fun v q => nomatch q⟩
    · exact ⟨o1, e1, fun v q => by rw [d1] at q; cases q⟩
    · exact ⟨o2, e2, fun v q => by rw [d2] at q; cases q⟩
  keep := fun j h g ⟨hz, hI, ⟨x, y, hO⟩, h1, h2⟩ k =>
    ⟨k z (five.mpr (.inl rfl)) _ hz, k TI (five.mpr (.inr (.inl rfl))) _ hI, ⟨x, y, k TO (five.mpr (.inr (.inr (.inl rfl)))) _ hO⟩, h1.at fun o q => k i1 (five.mpr (.inr (.inr (.inr (.inl rfl))))) o q, h2.at fun o q => k i2 (five.mpr (.inr (.inr (.inr (.inr rfl))))) o q⟩
  item := by
    rintro X rfl rfl rfl hc j pins s σ H E I hf ⟨hz, hI, ⟨x0, y0, hO⟩, h1, h2⟩ ⟨xs, ys, x, y, qx, qy, hx, hy⟩
    obtain ⟨its, rv, p, _⟩ := I.tuple qx
    obtain ⟨its2, rv2, p2, _⟩ := I.tuple qy
    obtain ⟨u, hu, ru⟩ := rv.get hx
    obtain ⟨u2, hu2, ru2⟩ := rv2.get hy
    have zl : z < s.heap.objs.size := Heap.lt_size hz
    refine RZ.pyNext_zipT_item D hz hI hO h1 h2 p p2 (x := u) (y := u2) (by simpa using hu) (by simpa using hu2) fun g gz gO g1 g2 gT gs gk => ⟨_, rfl, wpAny_letOwnedTupleGo_zip (s := { s with heap := g }) gz fun g' gz' sb => ?_⟩
    obtain ⟨T, hT⟩ : ∃ T, s.heap.objs.size = T := ⟨_, rfl⟩
    rw [hT] at gT zl ⊢
    have gT' : g'.get? T = some { cls := .type "tuple", data := .seq #[u, u2] } := (sb.2 _ (Nat.ne_of_gt zl)).trans gT
    have new : ObjOk X.prog X.w (upd H T (.tup [x, y])) g' T (.tup [x, y]) := ⟨by show 2 ≤ sizeLine; decide, [u, u2], .cons ru (.cons ru2 .nil), ⟨_, gT', rfl, _, rfl⟩⟩
    have old : ∀ (c : Addr) (o : Obj), c ∉ [z, TI, TO, i1, i2] → s.heap.get? c = some o → g'.get? c = some o := fun c o hb q => by
      rw [five, not_or, not_or, not_or, not_or] at hb
      exact (sb.2 c hb.1).trans (gk c o hb.1 hb.2.2.1 hb.2.2.2.1 hb.2.2.2.2 q)
    have J : Inv X pins σ (upd H T (.tup [x, y])) { s with heap := g' } := I.turnedNew (t' := s.toks) (ch := [z, TI, TO, i1, i2]) old hf (Nat.le_of_eq hT) new
    refine ⟨.ref T, _, J, rfl, ⟨_, x, y, rfl, I.hok.fresh (Nat.le_of_eq hT), rfl, fun l hl => by rw [I.tuple_inj hl qx]; exact hx, fun l hl => by rw [I.tuple_inj hl qy]; exact hy⟩, ⟨gz', (sb.2 _ D.TIz).trans (gk _ _ D.TIz D.TITO D.TIi1 D.TIi2 hI), ⟨u, u2, (sb.2 _ D.TOz).trans gO⟩, g1.at fun o q => (sb.2 _ D.i1z).trans q, g2.at fun o q => (sb.2 _ D.i2z).trans q⟩, fun c hm => ?_⟩
    have lt : c < T := by
      rw [← hT]
      rcases five.mp hm with q | q | q | q | q
      · rw [q]; exact Heap.lt_size hz
      · rw [q]; exact Heap.lt_size hI
      · rw [q]; exact Heap.lt_size hO
      · rw [q]; exact Heap.lt_size h1.choose_spec.1
      · rw [q]; exact Heap.lt_size h2.choose_spec.1
    rw [upd_ne (Nat.ne_of_lt lt)]
    exact (hf c hm).1
  done := by
    rintro X rfl rfl rfl hc j pins s σ H E I hf ⟨hz, hI, ⟨x0, y0, hO⟩, h1, h2⟩ ⟨xs, ys, qx, qy, hend⟩
    obtain ⟨its, rv, p, _⟩ := I.tuple qx
    obtain ⟨its2, rv2, p2, _⟩ := I.tuple qy
    have l1 := rv.length
    have l2 := rv2.length
    obtain ⟨x1, hot⟩ := hc.at I
    obtain ⟨hx1, o1, v1, w1, d1, c1⟩ := id hot
    have nz : x1 ≠ z := fun q => by rw [q, hz] at w1; cases w1; cases d1; cases c1
    have nO : x1 ≠ TO := fun q => by rw [q, hO] at w1; cases w1; cases d1
    have n1 : x1 ≠ i1 := hot_ne hot h1.choose_spec.1 h1.choose_spec.2.2 rfl
    have keep : ∀ {c : Addr} {o : Obj}, s.heap.get? c = some o → True := fun _ => trivial
    have e1 : its.toArray[j]? = none → EndsAt X.prog X.w X.A.in1 s i1 (But1 s.heap z) := fun hn g k Q E q =>
      tupOut (s := { s with heap := g }) (hot_go (A := X.A.in1) hot fun o e => k x1 o nz e) (h1.at fun o e => k i1 o D.i1z e) (tupAt p fun o e => k a o D.l1z e) hn q
    have e2 : its2.toArray[j]? = none → EndsAt X.prog X.w X.A.in1 s i2 (But3 s.heap z i1 TO) := fun hn g k Q E q =>
      tupOut (s := { s with heap := g }) (hot_go (A := X.A.in1) hot fun o e => k x1 o nz n1 nO e) (h2.at fun o e => k i2 o D.i2z (Ne.symm D.i12) (Ne.symm D.TOi2) e) (tupAt p2 fun o e => k b o D.l2z D.l2i1 D.l2TO e) hn q
    have he : EndsAt X.prog X.w X.A.in1 s i1 (But1 s.heap z) ∨ ∃ x, ItemAt X.prog X.w X.A.in1 s i1 x (But1 s.heap z) ∧ EndsAt X.prog X.w X.A.in1 s i2 (But3 s.heap z i1 TO) := by
      cases c : its.toArray[j]? with
      | none => exact .inl (e1 c)
      | some v => exact .inr ⟨v, fun g k Q E q => RZ.nextOf_tuple_item (s := { s with heap := g }) (h1.at fun o e => k i1 o D.i1z e) (tupAt p fun o e => k a o D.l1z e) c fun g' _ sb => q g' fun c o n e => (sb.2 c n).trans e, e2 (by
        have : j < its.length := by
          have := (Array.getElem?_eq_some_iff.mp c).1
          simpa using this
        rcases hend with q | q
        · omega
        · simp; omega)⟩
    refine next_zipOut ⟨D.TOz, D.i1z, D.i2z⟩ ⟨D.TOi1, D.TOi2, D.i12⟩ hz hI hO he fun g hk => ⟨rfl, I.turnedL (t' := s.toks) (ch := [z, TI, TO, i1, i2]) (fun c o hb q => ?_) hf⟩
    rw [five, not_or, not_or, not_or, not_or] at hb
    exact hk c o hb.1 hb.2.2.1 hb.2.2.2.1 hb.2.2.2.2 q
  self := fun _ _ _ _ _ st h => wpAny_pyIter_zip st.1 h
theorem turn_zipH {P : Program} {w : World} {K : PySem.W.Frag} {es : List Expr} {kk : Nat} {tp : Pos} {a b z TI TO i1 i2 : Addr} (D : ZipApart z TI TO i1 i2 a b) :
    TurnH P w K (.Tuple es kk tp) (Itz K a b) [z, TI, TO, i1, i2] z (fun j h => IsZip h z TI TO .none ∧ IsPair h TI (.ref i1) (.ref i2) ∧ (∃ x y, IsPair h TO x y) ∧ h.IsListIter i1 a j ∧ h.IsListIter i2 b j) where
  mem := List.mem_cons_self
  obj := fun j h ⟨hz, hI, ⟨x, y, hO⟩, ⟨o1, e1, _, d1⟩, ⟨o2, e2, _, d2⟩⟩ c hc => by
    rcases five.mp hc with rfl | rfl | rfl | rfl | rfl
    · exact ⟨_, hz, fun v q => nomatch q⟩
    · exact ⟨_, hI, fun v q => nomatch q⟩
    · exact ⟨_, hO, fun v q => nomatch q⟩
    · exact ⟨o1, e1, fun v q => by rw [d1] at q; cases q⟩
    · exact ⟨o2, e2, fun v q => by rw [d2] at q; cases q⟩
  keep := fun j h g ⟨hz, hI, ⟨x, y, hO⟩, h1, h2⟩ k =>
    ⟨k z (five.mpr (.inl rfl)) _ hz, k TI (five.mpr (.inr (.inl rfl))) _ hI, ⟨x, y, k TO (five.mpr (.inr (.inr (.inl rfl)))) _ hO⟩, h1.at fun o q => k i1 (five.mpr (.inr (.inr (.inr (.inl rfl))))) o q, h2.at fun o q => k i2 (five.mpr (.inr (.inr (.inr (.inr rfl))))) o q⟩
  item := by
    rintro X rfl rfl rfl hc j pins s σ H E I hf ⟨hz, hI, ⟨x0, y0, hO⟩, h1, h2⟩ ⟨xs, ys, x, y, qx, qy, hx, hy⟩
    obtain ⟨its, rv, p, _⟩ := I.list qx
    obtain ⟨its2, rv2, p2, _⟩ := I.list qy
    obtain ⟨u, hu, ru⟩ := rv.get hx
    obtain ⟨u2, hu2, ru2⟩ := rv2.get hy
    have zl : z < s.heap.objs.size := Heap.lt_size hz
    refine wpAny_pyNext_zip_item D hz hI hO h1 h2 p.isList p2.isList (x := u) (y := u2) (by simpa using hu) (by simpa using hu2) fun g gz gO g1 g2 gT gs gk => ⟨_, rfl, wpAny_letOwnedTupleGo_zip (s := { s with heap := g }) gz fun g' gz' sb => ?_⟩
    obtain ⟨T, hT⟩ : ∃ T, s.heap.objs.size = T := ⟨_, rfl⟩
    rw [hT] at gT zl ⊢
    have gT' : g'.get? T = some { cls := .type "tuple", data := .seq #[u, u2] } := (sb.2 _ (Nat.ne_of_gt zl)).trans gT
    have new : ObjOk X.prog X.w (upd H T (.tup [x, y])) g' T (.tup [x, y]) := ⟨by show 2 ≤ sizeLine; decide, [u, u2], .cons ru (.cons ru2 .nil), ⟨_, gT', rfl, _, rfl⟩⟩
    have old : ∀ (c : Addr) (o : Obj), c ∉ [z, TI, TO, i1, i2] → s.heap.get? c = some o → g'.get? c = some o := fun c o hb q => by
      rw [five, not_or, not_or, not_or, not_or] at hb
      exact (sb.2 c hb.1).trans (gk c o hb.1 hb.2.2.1 hb.2.2.2.1 hb.2.2.2.2 q)
    have J : Inv X pins σ (upd H T (.tup [x, y])) { s with heap := g' } := I.turnedNew (t' := s.toks) (ch := [z, TI, TO, i1, i2]) old hf (Nat.le_of_eq hT) new
    refine ⟨.ref T, _, J, rfl, ⟨_, x, y, rfl, I.hok.fresh (Nat.le_of_eq hT), rfl, fun l hl => by rw [I.list_inj hl qx]; exact hx, fun l hl => by rw [I.list_inj hl qy]; exact hy⟩, ⟨gz', (sb.2 _ D.TIz).trans (gk _ _ D.TIz D.TITO D.TIi1 D.TIi2 hI), ⟨u, u2, (sb.2 _ D.TOz).trans gO⟩, g1.at fun o q => (sb.2 _ D.i1z).trans q, g2.at fun o q => (sb.2 _ D.i2z).trans q⟩, fun c hm => ?_⟩
    have lt : c < T := by
      rw [← hT]
      rcases five.mp hm with q | q | q | q | q
      · rw [q]; exact Heap.lt_size hz
      · rw [q]; exact Heap.lt_size hI
      · rw [q]; exact Heap.lt_size hO
      · rw [q]; exact Heap.lt_size h1.choose_spec.1
      · rw [q]; exact Heap.lt_size h2.choose_spec.1
    rw [upd_ne (Nat.ne_of_lt lt)]
    exact (hf c hm).1
  done := by
    rintro X rfl rfl rfl hc j pins s σ H E I hf ⟨hz, hI, ⟨x0, y0, hO⟩, h1, h2⟩ ⟨xs, ys, qx, qy, hend⟩
    obtain ⟨its, rv, p, _⟩ := I.list qx
    obtain ⟨its2, rv2, p2, _⟩ := I.list qy
    have l1 := rv.length
    have l2 := rv2.length
    obtain ⟨x1, hot⟩ := hc.at I
    obtain ⟨hx1, o1, v1, w1, d1, c1⟩ := id hot
    have nz : x1 ≠ z := fun q => by rw [q, hz] at w1; cases w1; cases d1; cases c1
    have nO : x1 ≠ TO := fun q => by rw [q, hO] at w1; cases w1; cases d1
    have n1 : x1 ≠ i1 := hot_ne hot h1.choose_spec.1 h1.choose_spec.2.2 rfl
    have keep : ∀ {c : Addr} {o : Obj}, s.heap.get? c = some o → True := fun _ => trivial
    have e1 : its.toArray[j]? = none → EndsAt X.prog X.w X.A.in1 s i1 (But1 s.heap z) := fun hn g k Q E q =>
      lstOut (s := { s with heap := g }) (hot_go (A := X.A.in1) hot fun o e => k x1 o nz e) (h1.at fun o e => k i1 o D.i1z e) (lstAt p fun o e => k a o D.l1z e) hn q
    have e2 : its2.toArray[j]? = none → EndsAt X.prog X.w X.A.in1 s i2 (But3 s.heap z i1 TO) := fun hn g k Q E q =>
      lstOut (s := { s with heap := g }) (hot_go (A := X.A.in1) hot fun o e => k x1 o nz n1 nO e) (h2.at fun o e => k i2 o D.i2z (Ne.symm D.i12) (Ne.symm D.TOi2) e) (lstAt p2 fun o e => k b o D.l2z D.l2i1 D.l2TO e) hn q
    have he : EndsAt X.prog X.w X.A.in1 s i1 (But1 s.heap z) ∨ ∃ x, ItemAt X.prog X.w X.A.in1 s i1 x (But1 s.heap z) ∧ EndsAt X.prog X.w X.A.in1 s i2 (But3 s.heap z i1 TO) := by
      cases c : its.toArray[j]? with
      | none => exact .inl (e1 c)
      | some v => exact .inr ⟨v, fun g k Q E q => wpAny_nextOf_list_item (s := { s with heap := g }) (h1.at fun o e => k i1 o D.i1z e) (lstAt p fun o e => k a o D.l1z e) c fun g' _ sb => q g' fun c o n e => (sb.2 c n).trans e, e2 (by
        have : j < its.length := by
          have := (Array.getElem?_eq_some_iff.mp c).1
          simpa using this
        rcases hend with q | q
        · omega
        · simp; omega)⟩
    refine next_zipOut ⟨D.TOz, D.i1z, D.i2z⟩ ⟨D.TOi1, D.TOi2, D.i12⟩ hz hI hO he fun g hk => ⟨rfl, I.turnedL (t' := s.toks) (ch := [z, TI, TO, i1, i2]) (fun c o hb q => ?_) hf⟩
    rw [five, not_or, not_or, not_or, not_or] at hb
    exact hk c o hb.1 hb.2.2.1 hb.2.2.2.1 hb.2.2.2.2 q
  self := fun _ _ _ _ _ st h => wpAny_pyIter_zip st.1 h
end Sk
set_option Elab.async false
set_option linter.all false
set_option maxRecDepth 100000
set_option maxHeartbeats 1000000
namespace Sk
open PySem PySem.Spec PyProof.Rows L2 L2H
section
variable {X : Cx}
theorem pi_zipAH {e e2 : Expr} {ta : TA} {p pos tp : Pos} {es : List Expr} {kk : Nat} (hg : Gl X "zip") (hm : X.mg "zip" = none) (ha : PA X [e, e2] ta)
    (hs : starEach [e, e2] X.env = (false, eval e X.env) :: starEach [e2] X.env := by rfl) (hp : (backTo pos (starEach [e2] X.env)).any (·.1) = false := by rfl) :
    PIH X (.Tuple es kk tp) (.Call (.Name "zip" p) [e, e2] [] pos) (RZ.iZipA X.K ta) := by
  refine ⟨fun pins s σ H R I h => Call_ (ld_blt I hg hm boot_zip (callWith_type1 (thn (ha.run pos pins s σ H _ I h) fun us s1 ⟨vs, H1, I1, r1, a, b, xs, ys, ev, q⟩ => ?_) hs hp))⟩
  subst ev
  obtain ⟨u, v, rfl, ra, rb⟩ := vals2 r1
  cases ra
  cases rb
  obtain ⟨n, hn⟩ : ∃ n, s1.heap.objs.size = n := ⟨_, rfl⟩
  have fresh : ∀ c, c ∈ [n + 4, n + 2, n + 3, n, n + 1] → FpOk X pins H1 c := fun c hc => by
    have le : s1.heap.objs.size ≤ c := by
      rw [hn]
      rcases five.mp hc with z | z | z | z | z <;> (rw [z]; first | exact Nat.le_add_right _ _ | exact Nat.le_refl _)
    exact I1.fpOk le (I1.hok.fresh le)
  rcases q with ⟨qx, qy, q⟩ | ⟨qx, qy, q⟩
  · obtain ⟨its, rv, p1, _⟩ := I1.list qx
    obtain ⟨its2, rv2, p2, _⟩ := I1.list qy
    have la := p1.lt
    have lb := p2.lt
    refine call_zip_2 p1.isList p2.isList fun g hz hI hO h1 h2 _ k => wpAny_pyIter_zip hz ?_
    rw [hn] at hz hI hO h1 h2 la lb ⊢
    exact ⟨_, _, _, _, H1, rfl, I1.kept (t' := s1.toks) k, turn_zipH (PySem.W.ktu_apart n a b la lb), ⟨hz, hI, ⟨_, _, hO⟩, h1, h2⟩, fresh, q⟩
  · obtain ⟨its, rv, p1, _⟩ := I1.tuple qx
    obtain ⟨its2, rv2, p2, _⟩ := I1.tuple qy
    have la : a < s1.heap.objs.size := Heap.lt_size p1.choose_spec.1
    have lb : b < s1.heap.objs.size := Heap.lt_size p2.choose_spec.1
    refine RZ.call_zipT (tupAt p1 fun _ z => z) (tupAt p2 fun _ z => z) fun g hz hI hO h1 h2 _ k => wpAny_pyIter_zip hz ?_
    rw [hn] at hz hI hO h1 h2 la lb ⊢
    exact ⟨_, _, _, _, H1, rfl, I1.kept (t' := s1.toks) k, turn_zipTH (PySem.W.ktu_apart n a b la lb), ⟨hz, hI, ⟨_, _, hO⟩, h1, h2⟩, fresh, q⟩
/-- for .. else while an exception is handled -/
theorem ps_forEH {tg iter : Expr} {body other : List Stmt} {wi : TI} {g : TG} {tb tu : TS} {pos : Pos} (hp : PassesOwn (model X.prog X.w) X.A X.env X.xe) (hc : HotC X) (hi : PIH X tg iter wi) (hg : PG X tg g) (hb : PSs X body tb) (ho : PSs X other tu)
    (hs : ∀ x, foldedSetIterable iter X.env x = pure x := by intro _; rfl) : PS X (.For tg iter body other pos) (tForE wi g tb tu) := by
  refine ⟨fun pins s σ H D I h => wpAny_For (thn (hi.run pins s σ H _ I h) fun xv s1 h1 => thn h1 fun iv s2 ⟨it, fp, tn, J, H2, e, I2, T, st2, f2, W, ⟨m0, w0⟩, turn⟩ => ?_) hs⟩
  subst e
  have still : ∀ {G : Hp}, (∀ b ∈ fp, G b = none) → ∀ b ∈ fp, FpOk X pins G b := fun hn b hb => ⟨hn b hb, (f2 b hb).2⟩
  refine codeAny_forLoop_any (fun n u => ∃ j τ G, Inv X pins τ G u ∧ tn j u.heap ∧ (∀ b ∈ fp, G b = none) ∧ W j n τ G) ?_ m0 ⟨0, σ, H2, I2, st2, fun b hb => (f2 b hb).1, w0⟩
  rintro n s3 ⟨j, τ3, G3, I3, st3, fr3, w3⟩
  rcases turn j n τ3 G3 w3 with ⟨stop, qe⟩ | ⟨go, N, hN, step⟩
  · refine wpAny_passesOwn hp (thn (T.done X rfl rfl rfl hc j pins s3 τ3 G3 X.xe I3 (still fr3) st3 stop) fun r s4 ⟨hr, I4⟩ => ?_)
    subst hr
    exact wpAny_passesOwn hp (thn (ho.run pins s4 τ3 G3 D I4 qe) fun _ _ z => z)
  · refine wpAny_passesOwn hp (thn (T.item X rfl rfl rfl hc j pins s3 τ3 G3 X.xe I3 (still fr3) st3 go) fun r s4 ⟨u, hr, h4⟩ => ?_)
    subst hr
    refine wpAny_passesOwn hp (thn h4 fun _ s5 ⟨x, G5, I5, r5, y5, st5, fr5⟩ => ?_)
    refine wpAny_passesOwn hp (thn (hg.run _ s5 τ3 G5 x u _ (I5.pinned (still fr5) (T.obj _ _ st5)) r5 (step x G5 y5)) fun _ s6 ⟨τ6, G6, I6, q6⟩ => ?_)
    refine wpAny_passesOwn hp (thn (hb.run _ s6 τ6 G6 _ I6 q6) fun f s7 q7 => ?_)
    have back : ∀ {τ : L2.St} {G : Hp}, Inv X (pins ++ pinsAt fp s5.heap) τ G s7 → N τ G → ∃ m, m < n ∧ ∃ j τ G, Inv X pins τ G s7 ∧ tn j s7.heap ∧ (∀ b ∈ fp, G b = none) ∧ W j m τ G := fun {τ G} I7 nx => by
      obtain ⟨m', hm, w'⟩ := hN τ G nx
      have at7 : ∀ b ∈ fp, ∀ o, s5.heap.get? b = some o → s7.heap.get? b = some o ∧ G b = none := fun b hb o z => by
        obtain ⟨z1, z2, _⟩ := I7.pin (b, o) (List.mem_append_right _ (List.mem_append_right _ (mem_pinsAt hb z)))
        exact ⟨z1, z2⟩
      refine ⟨m', hm, j + 1, τ, G, I7.unpinned, T.keep _ _ _ st5 fun b hb o z => (at7 b hb o z).1, fun b hb => ?_, w'⟩
      obtain ⟨o, z, _⟩ := T.obj _ _ st5 b hb
      exact (at7 b hb o z).2
    cases f with
    | next =>
      obtain ⟨τ, G, I7, nx⟩ := q7
      exact back I7 nx
    | cont =>
      obtain ⟨τ, G, I7, nx⟩ := q7
      exact back I7 nx
    | brk =>
      obtain ⟨τ, G, I7, nx⟩ := q7
      exact ⟨τ, G, I7.unpinned, nx⟩
    | ret v =>
      obtain ⟨y, τ, G, I7, ry, nx⟩ := q7
      exact ⟨y, τ, G, I7.unpinned, ry, nx⟩
end
end Sk
set_option Elab.async false
set_option linter.all false
set_option maxRecDepth 100000
set_option maxHeartbeats 1000000
namespace Sk
open PySem PySem.Spec PyProof.Rows L2 L2H
section
variable {prog : Program} {w : World} {A : Around} {E : Value → Shared → Prop} {s : Shared}
theorem itemsH {x1 t : Addr} {ws : Array Value} {Q : List Value → Shared → Prop} (hot : HotX.HotAt A x1 s.heap) (ht : IsTup s.heap t ws)
    (hQ : ∀ g, (∀ b o, b ≠ s.heap.objs.size → s.heap.get? b = some o → g.get? b = some o) → Q ws.toList { s with heap := g }) : wpAny (model prog w) A (unpackItems (.ref t) ws.size none) Q E s := by
  have tl : t ≠ s.heap.objs.size := Nat.ne_of_lt (Heap.lt_size ht.choose_spec.1)
  have xl : x1 ≠ s.heap.objs.size := Nat.ne_of_lt (Heap.lt_size hot.2.choose_spec.choose_spec.1)
  unfold unpackItems notIterableAtAll
  refine wpAny_bind (wpAny_bind (wpAny_specialOf ht.typeIs slot_tuple_iter.lookup (wpAny_pure ?_)))
  rw [if_neg Bool.false_ne_true]
  refine wpAny_bind (wpAny_holding (iter_tuple ht ?_))
  refine wpAny_bind (wpAny_holding (draw_tuple tl ws.size 0 _ _ ⟨_, Heap.get?_push_size _ rfl, rfl, rfl⟩ (ht.push _) (by omega) fun g1 it1 s1 => ?_))
  have all : List.take ws.size (List.drop 0 ws.toList) = ws.toList := by rw [List.drop_zero, List.take_of_length_le (by simp)]
  rw [all, if_neg (by simp)]
  have hot1 : HotX.HotAt A x1 g1 := hot_go hot fun o e => (s1.2 x1 xl).trans (Heap.get?_push_of_some _ e)
  refine wpAny_bind (wpAny_holding (tupEnd_hot (s := { s with heap := g1 }) (j := ws.size) hot1 (show IsTupIter g1 s.heap.objs.size t ws.size by simpa using it1) ((ht.push _).extBut s1.extBut tl) (by simp) fun g hg => ?_))
  simp only [Option.isSome_none, Bool.false_eq_true, if_false]
  exact wpAny_pure (hQ g fun b o hb e => hg b o hb ((s1.2 b hb).trans (Heap.get?_push_of_some _ e)))
end
section
variable {X : Cx} {pos : Pos}
theorem ps_parH {i j : Nat} {x y : Str} {a b : Expr} {ta : TA} {px py pt : Pos} {kt k2 pt2} (hc : HotC X) (hN : X.N.Nodup) (hi : X.N[i]? = some x) (hj : X.N[j]? = some y) (hij : i ≠ j) (hx : X.env.scope.names.lookup x = some .local) (hy : X.env.scope.names.lookup y = some .local)
    (ha : PA X [a, b] ta) (hw : swappedStores [.Tuple [.Name x px, .Name y py] kt pt] (.Tuple [a, b] k2 pt2) X.env = pure (some [x, y])) (hs : swapsWithSole [.Tuple [.Name x px, .Name y py] kt pt] (.Tuple [a, b] k2 pt2) pos.line X.env = pure false := by rfl) :
    PS X (.Assign [.Tuple [.Name x px, .Name y py] kt pt] (.Tuple [a, b] k2 pt2) pos) (tPar i j ta) := by
  refine ⟨fun pins s σ H D I h => ?_⟩
  rw [exec_Assign_arm]
  refine wpAny_bind (wpAny_standAt ?_)
  rw [hs]
  refine wpAny_bind (wpAny_pure ?_)
  rw [if_neg Bool.false_ne_true]
  refine wpAny_bind (Tuple_ (thn (ha.run _ pins s σ H _ I h) fun us s1 ⟨vs, H1, I1, r1, v, w, ev, q⟩ => ?_))
  subst ev
  obtain ⟨u1, u2, rfl, rv, rw'⟩ := vals2 r1
  refine wpAny_newObj_type ?_ (by show 2 ≤ sizeLine; decide)
  have I2 : Inv X pins σ H1 { s1 with heap := s1.heap.push { cls := .type "tuple", data := .seq [u1, u2].toArray } } := I1.kept (t' := s1.toks) fun _ _ e => Heap.get?_push_of_some _ e
  obtain ⟨x1, hot⟩ := hc.at I2
  rw [hw]
  refine wpAny_bind (wpAny_pure ?_)
  show wpAny (model X.prog X.w) X.A (rule "assign.swapped-stores" >>= fun _ => unpackItems (.ref s1.heap.objs.size) 2 none >>= fun items => assignInOrder [fun z => bindName X.env y z, fun z => bindName X.env x z] items.reverse >>= fun _ => pure Flow.next) _ _ _
  refine wpAny_bind (wpAny_rule (wpAny_bind (itemsH (ws := #[u1, u2]) hot (IsTup.new s1.heap _) fun g hg => ?_)))
  have I3 := I2.kept (h' := g) (t' := s1.toks) fun b o e => hg b o (Nat.ne_of_lt (Heap.lt_size e)) e
  show wpAny _ _ (assignInOrder [fun z => bindName X.env y z, fun z => bindName X.env x z] [u2, u1] >>= fun _ => pure Flow.next) _ _ _
  refine wpAny_bind (assignInOrder_cons (wpAny_bindName (store_ok I3 hN hj (.inl hy) rw' (fun s2 I4 => assignInOrder_cons (wpAny_bindName (store_ok I4 hN hi (.inl hx) rv (fun s3 I5 => assignInOrder_nil (wpAny_pure ?_)) (.inr hx)))) (.inr hy))))
  have I6 := I5
  rw [List.set_comm _ _ (Ne.symm hij)] at I6
  exact ⟨_, H1, I6, q⟩
end
end Sk
set_option Elab.async false
set_option linter.all false
set_option maxRecDepth 100000
set_option maxHeartbeats 1000000
namespace Sk
open PySem PySem.Spec PyProof.Rows L2 L2H Evl
/-- what a def promises where it raises nothing -/
abbrev spH (sp : Sp) : Sp := fun vs H Q _ => sp vs H Q E0
/-- a raise that is never reached -/
theorem ps_raise0 {X : Cx} {st : Stmt} {C : Addr} {x : Str} (hn : nameIn X.K C = some x) : PS X st (tRaise X.K E0 C) :=
  ⟨fun pins s σ H D I h => (h (upd H s.heap.objs.size (.xd [("word", .str (wordOf x))])) (Ex.new (I.hok.fresh (Nat.le_refl _))) s.heap.objs.size ⟨x, hn, upd_same⟩).elim⟩
section
variable {X : Cx} {k : Nat} {f : Addr} {fd : FuncData} {ps : List Str} {sp : Sp} {E : XK} {x : Str} {q pos : Pos} {e : Expr} {es : List Expr} {t : TA}
theorem pe_callHot0 (F : FnH X.prog X.w X.K X.mg X.base CX0 k f fd ps (spH sp)) (hr : RoomH k X.A) (hc : HotC X) (hg : Gl X x) (hm : X.mg x = some (.ref f)) (hk : PySem.W.keepIn X.K (.ref f) = true) (hb : Binds X.K fd ps []) (ha : PA X (e :: es) t)
    (hdb : (x == ("__debug__" : Str)) = false := by decide) (he : starEach (e :: es) X.env = (false, eval e X.env) :: starEach es X.env := by rfl) (hpl : (backTo pos (starEach es X.env)).any (·.1) = false := by rfl) :
    PE X (.Call (.Name x q) (e :: es) [] pos) (tCall sp [] E0 t) :=
  pe_callHot (sp := spH sp) (E := E0) F hr hc hg hm hk hb ha hdb he hpl
end
end Sk
set_option Elab.async false
set_option linter.all false
set_option maxRecDepth 100000
set_option maxHeartbeats 2000000
namespace L2N
open PySem PySem.Spec PyProof.Rows L2
section
variable {X : Cx} {pins : List (Addr × Obj)} {σ : St} {H : Hp} {s s' : Shared} {W : WX}
/-- an exception over a ground of ours -/
theorem XE_of_sky {a : Addr} {B : Heap} {H' : Hp} {cls : Value} {d : Option Addr} (I : Inv X pins σ H s) (sky : Sky B X.stack a (Zn cls d) X.env.locals s'.heap) (st : B.StaysIn s'.heap) (hok : HOk X.prog X.w H' B)
    (ub : UB (frs X.stack) H H' s.heap B s'.heap) (na : H' a = none) (os : s'.os = s.os) (ag : AllBare s'.gens) (hW : W cls d σ H') : XE X W (.ref a) s' := by
  obtain ⟨G, g1, g2⟩ := restrict s'.heap fun b => (B.get? b).isSome || decide (b ∈ frs X.stack)
  have gB : ∀ b o, B.get? b = some o → G.get? b = some o := fun b o e => by
    rw [g1 b (by simp [e])]
    exact st b o e
  have gF : ∀ b, b ∈ frs X.stack → G.get? b = s'.heap.get? b := fun b hb => g1 b (by simp [hb])
  have og : ∀ b o, G.get? b = some o → s'.heap.get? b = some o ∧ ((B.get? b).isSome = true ∨ b ∈ frs X.stack) := fun b o e => by
    cases q : ((B.get? b).isSome || decide (b ∈ frs X.stack)) with
    | false => rw [g2 b q] at e; cases e
    | true =>
      rw [g1 b q] at e
      exact ⟨e, by simpa [Bool.or_eq_true] using q⟩
  refine ⟨a, B, { s with heap := G, gens := s'.gens, drawn := s'.drawn, toks := s'.toks }, pins, σ, H', cls, d, rfl, ?_, fun b o e hb => ?_, Heap.UpToSlots.of_keeps fun b o e => (og b o e).1, sky, na, os, ag, hW⟩
  · refine I.call (ch := []) ⟨fun b o e n hb _ => gB b o (ub.keep b o e n hb), fun b o e n hb _ => ?_, fun b o e n _ => ub.free b o e n, fun b o e _ => ?_, ub.tups, ub.frzs, ub.tbls⟩ (hok.kept gB) ag (fun _ z => nomatch z)
    · obtain ⟨sl, q⟩ := ub.slot b o e hb
      exact ⟨sl, by rw [gF b hb]; exact q⟩
    · by_cases hb : b ∈ frs X.stack
      · obtain ⟨sl, q⟩ := ub.slot b o e hb
        exact ⟨_, by rw [gF b hb]; exact q⟩
      · obtain ⟨o', q⟩ := ub.there b o e hb
        exact ⟨o', gB b o' q⟩
  · obtain ⟨e', h⟩ := og b o e
    rcases h with h | h
    · obtain ⟨o', q⟩ := Option.isSome_iff_exists.mp h
      have z := st b o' q
      rw [e'] at z; cases z
      exact q
    · exact absurd h hb
end
/-- an exception of a call within the block -/
def InBlk (Y : Cx) (W : WX) (u : Value) (s' : Shared) : Prop :=
  ∃ (pins : List (Addr × Obj)) (σ : St) (H : Hp) (s : Shared) (E : XK), Inv Y pins σ H s ∧ CX Y.prog Y.w Y.stack H s E u s' ∧ ∀ cls d H', E cls d H' → W cls d σ H'
section
variable {X : Cx}
/-- the block lets an exception out: noted, the block's variables let go, in the air of the def -/
theorem blk_out {pins : List (Addr × Obj)} {σ : St} {H3 : Hp} {s3 : Shared} {scope : Scope} {cl : List (Str × Addr)} {C : Addr} {fp : List Addr} {W : WX} {use : Option (Value → Sem Unit)} {Qf : Value → Shared → Prop} {acc : Value} {u : Value} {s' : Shared}
    (hst : X.stack = X.env :: X.outer) (hf : X.env.frame = some X.env.locals) (tk : Takes X W) (I3 : Inv X pins σ H3 s3) (hC : C = s3.heap.objs.size) (f3 : ∀ b ∈ fp, FpOk X pins H3 b ∧ b < s3.heap.objs.size)
    (xb : InBlk (X.blk s3 H3 scope (compEnvC scope cl C X.env) fp) (fun cls d _ H' => W cls d σ H') u s') :
    notedBy (model X.prog X.w) X.A (compEnvC scope cl C X.env) (fun e s'' => endPost (model X.prog X.w) X.A X.xe use Qf acc C X.env.frame (.error e) s'') u s' := by
  obtain ⟨pb, σb, Hb, sb, E, Ib, c, hW⟩ := xb
  obtain ⟨a, B, H', cls, d, rfl, fl, hok, ub, na, os, ag, hE⟩ := c
  have hfr : X.A.frames = some (X.env :: X.outer) := by rw [I3.ok.frames, hst]
  have hCn : Hb C = none := Ib.free
  have fC : FpOk X pins Hb C := I3.fpOk (Nat.le_of_eq hC.symm) hCn
  have hCs : C ∉ frs X.stack := fun hm => by
    rcases List.mem_cons.mp (I3.stkSub C hm) with z | z
    · exact fC.2.1 z
    · exact fC.2.2.1 z
  obtain ⟨mC, hnC, _⟩ := Ib.loc
  have hnC : sb.heap.Ns C mC := hnC
  obtain ⟨oC, esC, epC, hoC, hdC, hrC⟩ := id hnC
  have hBC : B.get? C = some oC := ub.keep C oC hoC hCn hCs
  have hH'C : H' C = none := ub.free C oC hoC hCn
  -- the def's state at the call, the block's variables away
  have I7 : Inv X pins σ Hb sb := I3.call' (ch := fp) Ib.os Ib.base Ib.hok Ib.bare fun b hb => ⟨(f3 b hb).1.2.2.2.1, (f3 b hb).1.2.1, (f3 b hb).1.2.2.2.2.1, (f3 b hb).1.2.2.2.2.2⟩
  obtain ⟨G, g1, g2⟩ := restrict sb.heap fun b => !decide (b = C)
  obtain ⟨B', b1, b2⟩ := restrict B fun b => !decide (b = C)
  have g1 : ∀ b, b ≠ C → G.get? b = sb.heap.get? b := fun b hb => g1 b (by simp [hb])
  have g2 : G.get? C = none := g2 C (by simp)
  have b1 : ∀ b, b ≠ C → B'.get? b = B.get? b := fun b hb => b1 b (by simp [hb])
  have b2 : B'.get? C = none := b2 C (by simp)
  have bB : ∀ b o, B'.get? b = some o → B.get? b = some o ∧ b ≠ C := fun b o e => by
    by_cases hb : b = C
    · rw [hb, b2] at e; cases e
    · exact ⟨(b1 b hb).symm.trans e, hb⟩
  have gB : ∀ b o, G.get? b = some o → sb.heap.get? b = some o ∧ b ≠ C := fun b o e => by
    by_cases hb : b = C
    · rw [hb, g2] at e; cases e
    · exact ⟨(g1 b hb).symm.trans e, hb⟩
  have I8 : Inv X pins σ Hb { sb with heap := G } := I7.turned (t' := sb.toks) (it := C) (fun b o hb e => (g1 b hb).trans e) fC.1 fC.2.1 fC.2.2.2.1 fC.2.2.2.2.1 fC.2.2.2.2.2
  have hok' : HOk X.prog X.w H' B' := fun b o q => (hok b o q).stay (fun c v hc r => by
    refine (b1 c fun z => ?_).trans r
    subst z
    rcases hc with hc | hc
    · rw [← hc, hH'C] at q; cases q
    · rw [hH'C] at hc; cases hc) (fun _ r => r) fun _ _ r => r
  have fl : HandSPX.FlyingZ B X.stack a (Zn cls d) s'.heap := fl
  rw [hst] at fl
  have nst : B.StaysIn s'.heap := fl.1
  show wpAny (model X.prog X.w) X.A (noteFrame (.ref a) X.env) _ _ _
  refine PXN.looks_onZ Zn.steady hfr hf fl fun h1 hh1 up1 => ?_
  obtain ⟨k1, k2, k3, oe, vs, T, oT, ts, he, hz, hd, ht1, hnT, hTe, hT, hdT, ht3⟩ := id hh1
  have hC1 : h1.get? C = some oC := k1 C oC hBC
  have aC : a ≠ C := fun z => by rw [z, hC1] at he; cases he; rw [hdC] at hd; cases hd
  have TC : T ≠ C := fun z => by rw [z, hC1] at hT; cases hT; rw [hdC] at hdT; cases hdT
  refine ⟨mC, ⟨oC, esC, epC, hC1, hdC, hrC⟩, fun h2 sb2 cenv _ hcf => ?_⟩
  have at2 : ∀ b, b ≠ C → h2.get? b = h1.get? b := fun b hb => sb2.2 b hb
  have frC : ∀ L ∈ frs (X.env :: X.outer), L ≠ C := fun L hL z => hCs (by rw [hst]; exact z ▸ hL)
  have held2 : HandSPX.HeldZ B' (X.env :: X.outer) a (Zn cls d) X.env.locals h2 := by
    refine ⟨fun b o e => (at2 b (bB b o e).2).trans (k1 b o (bB b o e).1), ?_, ?_, oe, vs, T, oT, ts, (at2 a aC).trans he, hz, hd, ht1, ?_, hTe, (at2 T TC).trans hT, hdT, ht3⟩
    · exact (b1 a aC).trans k2
    · have fr1 : h1.FunFrames B' (X.env :: X.outer) := funFrames_none k3 fun L hL => by
        rw [b1 L (frC L hL)]
        exact (k3.mem hL).1
      have : ∀ (l : List Env), (∀ L ∈ frs l, L ≠ C) → h1.FunFrames B' l → h2.FunFrames B' l := by
        intro l
        induction l with
        | nil => intro _ _; trivial
        | cons env l ih =>
          rintro hl ⟨q1, ⟨L, o, q2, q3, q4, q5⟩, q6⟩
          exact ⟨q1, ⟨L, o, q2, q3, (at2 L (hl L (List.mem_filterMap.mpr ⟨env, List.mem_cons_self, q2⟩))).trans q4, q5⟩, ih (fun L hL => hl L (by
            obtain ⟨e, he, q⟩ := List.mem_filterMap.mp hL
            exact List.mem_filterMap.mpr ⟨e, List.mem_cons_of_mem _ he, q⟩)) q6⟩
      exact this _ frC fr1
    · exact (b1 T TC).trans hnT
  unfold PySem.passOn
  rw [hcf, hf]
  obtain ⟨_, _, _, oe2, vs2, T2, oT2, ts2, he2, hz2, hd2, ht2, _⟩ := id held2
  refine wpAny_bind (wpAny_field he2 hd2 ht2 ?_)
  rw [if_neg (show ¬ ((Value.ref T2 == Value.none) = true) from by simp)]
  refine wpAny_bind (HandSPX.setFlight_onZ held2 fun h3 hh3 up3 => wpAny_throw (tk _ _ ?_))
  have keep3 : ∀ b o, b ≠ C → (∀ vs, o.data ≠ .fields vs) → s'.heap.get? b = some o → ∃ sl, h3.get? b = some { o with slots := sl } := fun b o hb hnf e => by
    obtain ⟨sl1, e1⟩ := up1 b o e hnf
    obtain ⟨sl3, e3⟩ := up3 b _ ((at2 b hb).trans e1) hnf
    exact ⟨sl3, e3⟩
  refine XE_of_sky (B := B') (H' := H') (cls := cls) (d := d) I8 (.inr (.inr (by rw [hst]; exact hh3))) hh3.1 hok' ⟨fun b o e n hb => ?_, fun b o e hb => ?_, fun b o e n => ub.free b o (gB b o e).1 n, fun b o e hb => ?_, ub.tups, ub.frzs, ub.tbls⟩ na os ag (hW _ _ _ hE)
  · exact (b1 b (gB b o e).2).trans (ub.keep b o (gB b o e).1 n hb)
  · obtain ⟨sl, q⟩ := ub.slot b o (gB b o e).1 hb
    obtain ⟨_, o0, e0, hnf⟩ := I7.stack.mem hb
    rw [(gB b o e).1] at e0; cases e0
    obtain ⟨sl3, q3⟩ := keep3 b { o with slots := sl } (gB b o e).2 hnf q
    exact ⟨sl3, q3⟩
  · obtain ⟨o', q⟩ := ub.there b o (gB b o e).1 hb
    exact ⟨o', (b1 b (gB b o e).2).trans q⟩
theorem lc_coreE {pins : List (Addr × Obj)} {s : Shared} {σ : St} {H : Hp} {Q : VK} {elt tg iter : Expr} {ifs : List Expr} {scope : Scope} {own : List (Str × Nat)} {pos pos' : Pos} {wi : TI} {g : TG} {tt : TT} {te : WX → TE} {W : WX} {use : Option (Value → Sem Unit)} {Qf : Value → Shared → Prop}
    (hst : X.stack = X.env :: X.outer) (hf : X.env.frame = some X.env.locals) (tk : Takes X W)
    (hc : X.calm = true) (hN : X.N.Nodup) (I : Inv X pins σ H s) (hi : PI X tg iter wi) (ok : BlkOk X.N X.env.scope scope own)
    (hg : ∀ (s : Shared) (H : Hp) (C : Addr) (cl : List (Str × Addr)) (fp : List Addr), PG (X.blk s H scope (compEnvC scope cl C X.env) fp) tg g) (ht : ∀ (s : Shared) (H : Hp) (C : Addr) (cl : List (Str × Addr)) (fp : List Addr), PTs (X.blk s H scope (compEnvC scope cl C X.env) fp) ifs tt)
    (he : ∀ (s : Shared) (H : Hp) (C : Addr) (cl : List (Str × Addr)) (fp : List Addr) (xe : Value → Shared → Prop) (W : WX), (∀ σ, PassesAt (CX X.prog X.w) (Cx.blkE X s H scope (compEnvC scope cl C X.env) fp xe) σ (WE W σ)) → PE (Cx.blkE X s H scope (compEnvC scope cl C X.env) fp xe) elt (te W)) (hs : ∀ x, foldedSetIterable iter X.env x = pure x)
    (h : tLcE wi g tt te W (own.map (·.2)) σ H Q)
    (hRR : ∀ D C s' m H', Inv X pins σ H' s' → Q (.ref D) H' → s'.heap.Ns C m → FpOk X pins H' C → endPost (model X.prog X.w) X.A X.xe use Qf (.ref D) C X.env.frame (.ok .next) s') :
    wpAny (model X.prog X.w) X.A (comprehension (.ListComp elt [⟨tg, iter, ifs, 0⟩] scope pos) scope X.env pos' (newList []) false (eval iter X.env) use) Qf X.xe s := by
  have hfree : ∀ y ∈ scope.names, y.2 = .free → ∃ c, X.env.cells.lookup y.1 = some c := fun y hy e => by
    rcases ok.free y hy e with k | k
    · exact I.ok.has _ (.inl k)
    · exact I.ok.has _ (.inr k)
  have h : tLc wi g tt (te fun cls d _ H' => W cls d σ H') (own.map (·.2)) σ H Q := h
  refine comp_ends (use := use) rfl hs (closure_ok hfree) ok.kind (fun y hy e => by rw [ok.uniq y hy, e])
    (thn (hi.run pins s σ H _ I h) fun xv s1 hx => thn hx fun itv s2 h2 => ?_)
  obtain ⟨it, fp, tn, J, H2, e, I2, T, st2, f2, q⟩ := h2
  subst e
  refine wpAny_newObj_type (newEnv_comp ?_) (by show 0 ≤ sizeLine; decide)
  generalize hD : s2.heap.objs.size = D
  have hDn : H2 D = none := I2.hok.fresh (Nat.le_of_eq hD)
  obtain ⟨Wm, ⟨m0, w0⟩, turn⟩ := q D hDn
  generalize hs3 : ({ s2 with heap := s2.heap.push { cls := .type "list", data := .seq ([] : List Value).toArray } } : Shared) = s3
  have I3 : Inv X pins σ (upd H2 D (.lst [])) s3 := by
    rw [← hs3]
    refine I2.laid (t' := s2.toks) (fun b o e => Heap.get?_push_of_some _ e) (Nat.le_of_eq hD) ⟨Nat.zero_le _, [], 0, .nil, ?_⟩
    rw [← hD]
    exact Heap.get?_push_size _ rfl
  have h3 : s3.heap = s2.heap.push { cls := .type "list", data := .seq ([] : List Value).toArray } := by rw [← hs3]
  have sz : ∀ b ∈ fp, b < s2.heap.objs.size := fun b hb => by
    obtain ⟨o, e, _⟩ := T.obj _ _ st2 b hb
    exact Heap.lt_size e
  have f3 : ∀ b ∈ fp, FpOk X pins (upd H2 D (.lst [])) b ∧ b < s3.heap.objs.size := fun b hb => by
    have hlt := sz b hb
    refine ⟨⟨?_, (f2 b hb).2⟩, by rw [h3, Heap.size_push]; exact Nat.lt_succ_of_lt hlt⟩
    rw [upd_ne (by rw [← hD]; exact Nat.ne_of_lt hlt)]
    exact (f2 b hb).1
  have st3 : tn 0 s3.heap := T.keep _ _ _ st2 fun b _ o e => by rw [h3]; exact Heap.get?_push_of_some _ e
  have I4 := block_start I3 ok hN f3
  generalize hcl : cellsFrom (s3.heap.objs.size + 1) scope.names (cloFrom X.env.cells scope.names []) = cl at I4 ⊢
  have pg := hg s3 (upd H2 D (.lst [])) s3.heap.objs.size cl fp
  have pt := ht s3 (upd H2 D (.lst [])) s3.heap.objs.size cl fp
  show codeAny _ _ (.compStart (.ListComp elt [⟨tg, iter, ifs, 0⟩] scope pos) 0 (.ref it) (.ref D) (compEnvC scope cl s3.heap.objs.size X.env)) (endPost (model X.prog X.w) X.A X.xe use Qf (.ref D) s3.heap.objs.size X.env.frame) { s3 with heap := pushCells (s3.heap.push { cls := .type "dict", data := .dict #[] }) scope.names }
  have nfp : ∀ b ∈ fp, (upd H2 D (.lst [])) b = none := fun b hb => (f3 b hb).1.1
  generalize hH3 : upd H2 D (.lst []) = H3 at I3 I4 pg pt w0 nfp f3
  have pe := he s3 H3 s3.heap.objs.size cl fp (InBlk (X.blk s3 H3 scope (compEnvC scope cl s3.heap.objs.size X.env) fp) fun cls d _ H' => W cls d σ H') (fun cls d _ H' => W cls d σ H')
    fun σb pb Hb sb u sb' Ib c => ⟨pb, σb, Hb, sb, _, Inv.unxe Ib I4.ok, c, fun _ _ _ z => z⟩
  have err : ∀ (u : Value) (s' : Shared), InBlk (X.blk s3 H3 scope (compEnvC scope cl s3.heap.objs.size X.env) fp) (fun cls d _ H' => W cls d σ H') u s' →
      notedBy (model X.prog X.w) X.A (compEnvC scope cl s3.heap.objs.size X.env) (fun e s'' => endPost (model X.prog X.w) X.A X.xe use Qf (.ref D) s3.heap.objs.size X.env.frame (.error e) s'') u s' :=
    fun u s' xb => blk_out hst hf tk I3 rfl f3 xb
  generalize hce : compEnvC scope cl s3.heap.objs.size X.env = ce at I4 pg pt pe err ⊢
  have cL : ce.locals = s3.heap.objs.size := by subst hce; rfl
  generalize hs4 : ({ s3 with heap := pushCells (s3.heap.push { cls := .type "dict", data := .dict #[] }) scope.names } : Shared) = s4 at I4 ⊢
  have okB := I4.ok
  have st4 : tn 0 s4.heap := T.keep _ _ _ st3 fun b _ o e => by rw [← hs4]; exact pushCells_keeps _ _ _ _ (Heap.get?_push_of_some _ e)
  have stat : ∀ {σ' : St} {H' : Hp} {s' : Shared}, Inv (X.blk s3 H3 scope ce fp) [] σ' H' s' → (∀ b ∈ fp, H' b = none) → ∀ b ∈ fp, FpOk (X.blk s3 H3 scope ce fp) [] H' b := fun {σ' H' s'} I' hn b hb =>
    ⟨hn b hb, (I'.ok.exf b hb).1, I'.ok.exfs b hb, .inl hb, fun x c e => (I'.ok.exf b hb).2 x c e, fun p hp => absurd (show p ∈ ([] : List (Addr × Obj)) ++ [] from hp) (by simp)⟩
  have loop : codeAny (model X.prog X.w) X.A (.compLoop (.ListComp elt [⟨tg, iter, ifs, 0⟩] scope pos) 0 (.ref it) (.ref D) ce) (endPost (model X.prog X.w) X.A X.xe use Qf (.ref D) s3.heap.objs.size X.env.frame) s4 := by
    refine compLoop_any (fun n s' => ∃ i H', Inv (X.blk s3 H3 scope ce fp) [] (wipe σ (own.map (·.2))) H' s' ∧ tn i s'.heap ∧ (∀ b ∈ fp, H' b = none) ∧ Wm i n H') ?_ m0 ⟨0, H3, I4, st4, nfp, w0⟩
    rintro n s5 ⟨i, H5, I5, st5, n5, w5⟩
    rcases turn i n H5 w5 with ⟨stop, qq⟩ | ⟨go, Nx, hNx, step⟩
    · have td := T.done (X.blk s3 H3 scope ce fp) rfl rfl rfl hc i [] s5 _ H5 (fun _ _ => False) I5 (stat I5 n5) st5 stop
      refine thnF td fun r s6 ⟨hr, I6⟩ => ?_
      subst hr
      have I7 : Inv X pins σ H5 s6 := I3.call' (ch := fp) I6.os I6.base I6.hok I6.bare fun b hb => ⟨(f3 b hb).1.2.2.2.1, (f3 b hb).1.2.1, (f3 b hb).1.2.2.2.2.1, (f3 b hb).1.2.2.2.2.2⟩
      have nC : H5 s3.heap.objs.size = none := by
        have z : H5 ce.locals = none := I6.free
        rw [cL] at z
        exact z
      obtain ⟨m, hn, _⟩ := I6.loc
      have hn : s6.heap.Ns ce.locals m := hn
      rw [cL] at hn
      exact hRR D s3.heap.objs.size s6 m H5 I7 qq hn (I3.fpOk (Nat.le_refl _) nC)
    · have ti := T.item (X.blk s3 H3 scope ce fp) rfl rfl rfl hc i [] s5 _ H5 (fun _ _ => False) I5 (stat I5 n5) st5 go
      refine thnF ti fun r s6 ⟨u, hr, h6⟩ => ?_
      subst hr
      refine thnF h6 fun _ s7 ⟨x, H7, I7, r7, y7, st7, n7⟩ => ?_
      have I7' := I7.pinned (stat I7 n7) (T.obj _ _ st7)
      refine thnF (pg.run _ s7 _ H7 x u _ I7' r7 (step x H7 y7)) fun _ s8 ⟨σ8, H8, I8, hw8, q8⟩ => ?_
      refine thnF (pt.run _ s8 σ8 H8 _ I8 q8) fun b s9 ⟨H9, I9, q9⟩ => ?_
      have fin : ∀ {s' : Shared} {H' : Hp}, Inv (X.blk s3 H3 scope ce fp) ([] ++ pinsAt fp s7.heap) σ8 H' s' → Nx H' → ∃ m, m < n ∧ ∃ i H', Inv (X.blk s3 H3 scope ce fp) [] (wipe σ (own.map (·.2))) H' s' ∧ tn i s'.heap ∧ (∀ b ∈ fp, H' b = none) ∧ Wm i m H' := fun {s' H'} I' nx => by
        obtain ⟨m', hm, w'⟩ := hNx H' nx
        have pin' : ∀ b ∈ fp, ∀ o, s7.heap.get? b = some o → s'.heap.get? b = some o ∧ H' b = none := fun b hb o e =>
          let z := I'.pin (b, o) (List.mem_append_right _ (List.mem_append_right _ (mem_pinsAt hb e)))
          ⟨z.1, z.2.1⟩
        have hl : (wipe σ (own.map (·.2))).length = σ8.length := by rw [← hw8, wipe_length]
        refine ⟨m', hm, i + 1, H', (I'.unpinned (pins := [])).weak hl (fun j v e => ?_), T.keep _ _ _ st7 fun b hb o e => (pin' b hb o e).1, fun b hb => ?_, w'⟩
        · rw [← hw8] at e
          exact (wipe_some e).1
        · obtain ⟨o, e, _⟩ := T.obj _ _ st7 b hb
          exact (pin' b hb o e).2
      cases b with
      | false =>
        simp only [Bool.false_eq_true, if_false] at q9 ⊢
        exact fin I9 q9
      | true =>
        simp only [if_true] at q9 ⊢
        refine wpAny_mono (pe.run _ s9 σ8 H9 _ (Inv.xe I9 _) q9) (fun z s10 ⟨yv, H10, I10, r10, acc, hD10, hz10, nx⟩ => ?_) fun u s' xb => err u s' xb
        exact app_ok (X := X.blk s3 H3 scope ce fp) (Inv.unxe I10 okB) hD10 hz10 r10 fun s11 I11 => fin I11 nx
  exact codeAny_compStart_list loop (T.self X.A 0 _ _ _ st4 loop)
/-- as a value -/
theorem pe_lcE {elt tg iter : Expr} {ifs : List Expr} {scope : Scope} {own : List (Str × Nat)} {pos : Pos} {wi : TI} {g : TG} {tt : TT} {te : WX → TE} {W : WX} (hst : X.stack = X.env :: X.outer) (hf : X.env.frame = some X.env.locals) (tk : Takes X W)
    (hc : X.calm = true) (hN : X.N.Nodup) (hi : PI X tg iter wi) (ok : BlkOk X.N X.env.scope scope own)
    (hg : ∀ (s : Shared) (H : Hp) (C : Addr) (cl : List (Str × Addr)) (fp : List Addr), PG (X.blk s H scope (compEnvC scope cl C X.env) fp) tg g) (ht : ∀ (s : Shared) (H : Hp) (C : Addr) (cl : List (Str × Addr)) (fp : List Addr), PTs (X.blk s H scope (compEnvC scope cl C X.env) fp) ifs tt)
    (he : ∀ (s : Shared) (H : Hp) (C : Addr) (cl : List (Str × Addr)) (fp : List Addr) (xe : Value → Shared → Prop) (W : WX), (∀ σ, PassesAt (CX X.prog X.w) (Cx.blkE X s H scope (compEnvC scope cl C X.env) fp xe) σ (WE W σ)) → PE (Cx.blkE X s H scope (compEnvC scope cl C X.env) fp xe) elt (te W)) (hs : ∀ x, foldedSetIterable iter X.env x = pure x := by intro _; rfl) :
    PE X (.ListComp elt [⟨tg, iter, ifs, 0⟩] scope pos) (tLcE wi g tt te W (own.map (·.2))) := by
  refine ⟨fun pins s σ H Q I h => ?_⟩
  rw [eval_ListComp]
  refine lc_coreE hst hf tk hc hN I hi ok hg ht he hs h fun D C s' m H' I' q hn f => ⟨m, hn, fun h'' sb => ?_⟩
  obtain ⟨f0, f1, f2, f3, f4, f5⟩ := f
  exact ⟨.ref D, H', I'.turned (t' := s'.toks) (fun b o hb e => (sb.2 b hb).trans e) f0 f1 f3 f4 f5, rfl, q⟩
end
end L2N
set_option Elab.async false
set_option linter.all false
set_option maxRecDepth 100000
set_option maxHeartbeats 2000000
namespace Sk
open PySem PySem.Spec PyProof.Rows L2 Evl
theorem hu150S {k : Nat} {A : Around} {h : Option Value} (r : Room k A) : (A.mark h).units + 150 < cLine := (hu150 r : A.units + 150 < cLine)
end Sk
set_option Elab.async false
set_option linter.all false
namespace Sk
open PySem L2 Evl
theorem spF0.len {P : Hp → VP → Prop} {vs : List V} {H : Hp} {Q : VK} {E : XK} (h : spF0 P vs H Q E) : vs.length = 0 := by obtain ⟨_, h, _⟩ := h; first | (subst h; rfl) | (rw [h]; rfl)
end Sk
namespace Sk
open PySem PySem.Spec PyProof.Rows L2 Evl
section
variable {P : Program} {w : World} {K : PySem.W.Frag} {mg : Str → Option Value} {base : Heap}
theorem sc_c_ReckonError : FnScope ["self", "why", "word"] ["self", "why", "word"] (defScope s_c_ReckonError) := ⟨rfl, rfl, rfl, by decide +kernel, rfl, by decide +kernel, by decide +kernel⟩
theorem ok_c_ReckonError {f : Addr} {fd : FuncData} {dvs : List V} (F : FunD K "__init__" "ReckonError.__init__" (defArgs s_c_ReckonError) (defBody s_c_ReckonError) (defScope s_c_ReckonError) dvs [] f fd) (bV : mg "ValueError" = none) (vV : PySem.W.findCls K (.type "ValueError") (.type "type") "__init__" = some (.val (.builtin "ValueError.__init__"))) : FnOk P w K mg base CX0 1 f fd ["self", "why", "word"] (sp_rinit K) := by
  refine F.ok (k := 0) sc_c_ReckonError (fun vs H Q E h => by obtain ⟨a, C, u, w, rfl, _⟩ := h; rfl) (fun cdv A outer s H vs Q E hr h => ⟨t_rinit K, ?_, pure_rinit h⟩)
  exact (pss_cons (ps_expr (pe_veinit (by rfl) bV vV (pa_cons (pv 0) (pa_cons (pv 1) pa_nil)))) (pss_one (ps_ost (pv 0) (pv 2))))
theorem sc_c_NotAllowed : FnScope ["self", "why"] ["self", "why"] (defScope s_c_NotAllowed) := ⟨rfl, rfl, rfl, by decide +kernel, rfl, by decide +kernel, by decide +kernel⟩
theorem ok_c_NotAllowed {f fR aR : Addr} {fd fdR : FuncData} {dvs : List V} (F : FunD K "__init__" "NotAllowed.__init__" (defArgs s_c_NotAllowed) (defBody s_c_NotAllowed) (defScope s_c_NotAllowed) dvs [] f fd) (mR : mg "ReckonError" = some (.ref aR)) (r : ClX.CRead K aR (.type "type")) (c : ClX.CVal K aR (.type "type") "__init__" (.ref fR) (.ref fR)) (kp : PySem.W.keepIn K (.ref fR) = true) (G : FnOk P w K mg base CX0 1 fR fdR ["self", "why", "word"] (sp_rinit K)) (b : Binds K fdR ["self", "why", "word"] []) : FnOk P w K mg base CX0 2 f fd ["self", "why"] (sp_cinit K (wordOf "NotAllowed")) := by
  refine F.ok (k := 1) sc_c_NotAllowed (fun vs H Q E h => by obtain ⟨a, C, u, rfl, _⟩ := h; rfl) (fun cdv A outer s H vs Q E hr h => ⟨t_cinit K aR (wordOf "NotAllowed"), ?_, pure_cinit h⟩)
  exact (pss_one (ps_expr (pe_cfn (by rfl) mR r c kp G hr b pass0 (pa_cons (pv 0) (pa_cons (pv 1) (pa_cons pe_str pa_nil))))))
theorem sc_c_TooLarge : FnScope ["self", "why"] ["self", "why"] (defScope s_c_TooLarge) := ⟨rfl, rfl, rfl, by decide +kernel, rfl, by decide +kernel, by decide +kernel⟩
theorem ok_c_TooLarge {f fR aR : Addr} {fd fdR : FuncData} {dvs : List V} (F : FunD K "__init__" "TooLarge.__init__" (defArgs s_c_TooLarge) (defBody s_c_TooLarge) (defScope s_c_TooLarge) dvs [] f fd) (mR : mg "ReckonError" = some (.ref aR)) (r : ClX.CRead K aR (.type "type")) (c : ClX.CVal K aR (.type "type") "__init__" (.ref fR) (.ref fR)) (kp : PySem.W.keepIn K (.ref fR) = true) (G : FnOk P w K mg base CX0 1 fR fdR ["self", "why", "word"] (sp_rinit K)) (b : Binds K fdR ["self", "why", "word"] []) : FnOk P w K mg base CX0 2 f fd ["self", "why"] (sp_cinit K (wordOf "TooLarge")) := by
  refine F.ok (k := 1) sc_c_TooLarge (fun vs H Q E h => by obtain ⟨a, C, u, rfl, _⟩ := h; rfl) (fun cdv A outer s H vs Q E hr h => ⟨t_cinit K aR (wordOf "TooLarge"), ?_, pure_cinit h⟩)
  exact (pss_one (ps_expr (pe_cfn (by rfl) mR r c kp G hr b pass0 (pa_cons (pv 0) (pa_cons (pv 1) (pa_cons pe_str pa_nil))))))
abbrev N_signed_places : List Str := ["value", "found", "place", "zeros", "sign"]
theorem sc_signed_places : FnScope N_signed_places ["value"] (defScope s_signed_places) := ⟨rfl, rfl, rfl, by decide +kernel, rfl, by decide +kernel, by decide +kernel⟩
abbrev N_bare_number : List Str := ["value", "sign", "place"]
theorem sc_bare_number : FnScope N_bare_number ["value"] (defScope s_bare_number) := ⟨rfl, rfl, rfl, by decide +kernel, rfl, by decide +kernel, by decide +kernel⟩
abbrev N_value_within : List Str := ["number", "bits", "total", "sign", "exponent", "place"]
theorem sc_value_within : FnScope N_value_within ["number", "bits"] (defScope s_value_within) := ⟨rfl, rfl, rfl, by decide +kernel, rfl, by decide +kernel, by decide +kernel⟩
abbrev N_plus_small : List Str := ["number", "value", "keep", "reach", "place", "sign", "exponent"]
theorem sc_plus_small : FnScope N_plus_small ["number", "value"] (defScope s_plus_small) := ⟨rfl, rfl, rfl, by decide +kernel, rfl, by decide +kernel, by decide +kernel⟩
abbrev N_order : List Str := ["first", "second", "turn", "left", "right", "sign", "other"]
theorem sc_order : FnScope N_order ["first", "second"] (defScope s_order) := ⟨rfl, rfl, rfl, by decide +kernel, rfl, by decide +kernel, by decide +kernel⟩
abbrev N_gap : List Str := ["first", "second", "same", "upper", "lower", "bits", "high", "low", "left", "right"]
theorem sc_gap : FnScope N_gap ["first", "second"] (defScope s_gap) := ⟨rfl, rfl, rfl, by decide +kernel, rfl, by decide +kernel, by decide +kernel⟩
abbrev N_terms_at : List Str := ["base", "value", "sign", "place"]
theorem sc_terms_at : FnScope N_terms_at ["base", "value"] (defScope s_terms_at) := ⟨rfl, rfl, rfl, by decide +kernel, rfl, by decide +kernel, by decide +kernel⟩
abbrev N_settled : List Str := ["row", "many", "found", "at", "value", "base", "step"]
theorem sc_settled : FnScope N_settled ["row", "many"] (defScope s_settled) := ⟨rfl, rfl, rfl, by decide +kernel, rfl, by decide +kernel, by decide +kernel⟩
abbrev N_plus : List Str := ["first", "second", "value", "row", "at", "other", "rest"]
theorem sc_plus : FnScope N_plus ["first", "second"] (defScope s_plus) := ⟨rfl, rfl, rfl, by decide +kernel, rfl, by decide +kernel, by decide +kernel⟩
abbrev N_index_in : List Str := ["row", "exponent", "begin", "end", "middle"]
theorem sc_index_in : FnScope N_index_in ["row", "exponent"] (defScope s_index_in) := ⟨rfl, rfl, rfl, by decide +kernel, rfl, by decide +kernel, by decide +kernel⟩
abbrev N_bare_sum : List Str := ["terms", "total", "row", "sign", "exponent", "place", "at"]
theorem sc_bare_sum : FnScope N_bare_sum ["terms"] (defScope s_bare_sum) := ⟨rfl, rfl, rfl, by decide +kernel, rfl, by decide +kernel, by decide +kernel⟩
abbrev N_bare_shift : List Str := ["terms", "places", "value", "sign", "exponent"]
theorem sc_bare_shift : FnScope N_bare_shift ["terms", "places"] (defScope s_bare_shift) := ⟨rfl, rfl, rfl, by decide +kernel, rfl, by decide +kernel, by decide +kernel⟩
abbrev N_levels : List Str := ["number", "rows", "row", "item", "_", "exponent"]
theorem sc_levels : FnScope N_levels ["number"] (defScope s_levels) := ⟨rfl, rfl, rfl, by decide +kernel, rfl, by decide +kernel, by decide +kernel⟩
abbrev N_is_allowed : List Str := ["number", "rows", "row"]
theorem sc_is_allowed : FnScope N_is_allowed ["number"] (defScope s_is_allowed) := ⟨rfl, rfl, rfl, by decide +kernel, rfl, by decide +kernel, by decide +kernel⟩
abbrev N_allowed : List Str := ["number"]
theorem sc_allowed : FnScope N_allowed ["number"] (defScope s_allowed) := ⟨rfl, rfl, rfl, by decide +kernel, rfl, by decide +kernel, by decide +kernel⟩
abbrev N_sign_of : List Str := ["number"]
theorem sc_sign_of : FnScope N_sign_of ["number"] (defScope s_sign_of) := ⟨rfl, rfl, rfl, by decide +kernel, rfl, by decide +kernel, by decide +kernel⟩
abbrev N_compare : List Str := ["first", "second"]
theorem sc_compare : FnScope N_compare ["first", "second"] (defScope s_compare) := ⟨rfl, rfl, rfl, by decide +kernel, rfl, by decide +kernel, by decide +kernel⟩
abbrev N_are_apart : List Str := ["upper", "lower"]
theorem sc_are_apart : FnScope N_are_apart ["upper", "lower"] (defScope s_are_apart) := ⟨rfl, rfl, rfl, by decide +kernel, rfl, by decide +kernel, by decide +kernel⟩
abbrev N_has_form : List Str := ["number", "exponents", "sign", "exponent", "_", "upper", "lower"]
theorem sc_has_form : FnScope N_has_form ["number"] (defScope s_has_form) := ⟨rfl, rfl, rfl, by decide +kernel, rfl, by decide +kernel, by decide +kernel⟩
abbrev N_check_number : List Str := ["number"]
theorem sc_check_number : FnScope N_check_number ["number"] (defScope s_check_number) := ⟨rfl, rfl, rfl, by decide +kernel, rfl, by decide +kernel, by decide +kernel⟩
abbrev N_of_int : List Str := ["value"]
theorem sc_of_int : FnScope N_of_int ["value"] (defScope s_of_int) := ⟨rfl, rfl, rfl, by decide +kernel, rfl, by decide +kernel, by decide +kernel⟩
abbrev N_negate : List Str := ["number", "sign", "exponent"]
theorem sc_negate : FnScope N_negate ["number"] (defScope s_negate) := ⟨rfl, rfl, rfl, by decide +kernel, rfl, by decide +kernel, by decide +kernel⟩
abbrev N_add : List Str := ["first", "second"]
theorem sc_add : FnScope N_add ["first", "second"] (defScope s_add) := ⟨rfl, rfl, rfl, by decide +kernel, rfl, by decide +kernel, by decide +kernel⟩
abbrev N_sum_terms : List Str := ["terms", "sign", "exponent"]
theorem sc_sum_terms : FnScope N_sum_terms ["terms"] (defScope s_sum_terms) := ⟨rfl, rfl, rfl, by decide +kernel, rfl, by decide +kernel, by decide +kernel⟩
abbrev N_bare_plain : List Str := ["element", "zeros", "u", "v", "m"]
theorem sc_bare_plain : FnScope N_bare_plain ["element"] (defScope s_bare_plain) := ⟨rfl, rfl, rfl, by decide +kernel, rfl, by decide +kernel, by decide +kernel⟩
abbrev N_sum_of_two : List Str := ["u", "v", "x", "y"]
theorem sc_sum_of_two : FnScope N_sum_of_two ["u", "v", "x", "y"] (defScope s_sum_of_two) := ⟨rfl, rfl, rfl, by decide +kernel, rfl, by decide +kernel, by decide +kernel⟩
abbrev N_bare_product : List Str := ["first", "second", "u", "v", "m", "x", "y", "n", "w", "place"]
theorem sc_bare_product : FnScope N_bare_product ["first", "second"] (defScope s_bare_product) := ⟨rfl, rfl, rfl, by decide +kernel, rfl, by decide +kernel, by decide +kernel⟩
abbrev N_bare_inverse : List Str := ["element", "u", "v", "m"]
theorem sc_bare_inverse : FnScope N_bare_inverse ["element"] (defScope s_bare_inverse) := ⟨rfl, rfl, rfl, by decide +kernel, rfl, by decide +kernel, by decide +kernel⟩
abbrev N_allowed_el : List Str := ["element", "number"]
theorem sc_allowed_el : FnScope N_allowed_el ["element"] (defScope s_allowed_el) := ⟨rfl, rfl, rfl, by decide +kernel, rfl, by decide +kernel, by decide +kernel⟩
abbrev N_is_plain : List Str := ["element", "u", "v", "_"]
theorem sc_is_plain : FnScope N_is_plain ["element"] (defScope s_is_plain) := ⟨rfl, rfl, rfl, by decide +kernel, rfl, by decide +kernel, by decide +kernel⟩
abbrev N_plain_elX : List Str := ["element"]
theorem sc_plain_elX : FnScope N_plain_elX ["element"] (defScope s_plain_elX) := ⟨rfl, rfl, rfl, by decide +kernel, rfl, by decide +kernel, by decide +kernel⟩
abbrev N_mul_el : List Str := ["first", "second"]
theorem sc_mul_el : FnScope N_mul_el ["first", "second"] (defScope s_mul_el) := ⟨rfl, rfl, rfl, by decide +kernel, rfl, by decide +kernel, by decide +kernel⟩
abbrev N_inv_el : List Str := ["element"]
theorem sc_inv_el : FnScope N_inv_el ["element"] (defScope s_inv_el) := ⟨rfl, rfl, rfl, by decide +kernel, rfl, by decide +kernel, by decide +kernel⟩
abbrev N_law_numbers44 : List Str := ["script", "many", "numbers", "k", "base", "last", "cell", "j", "mixed"]
theorem sc_law_numbers44 : FnScope N_law_numbers44 ["script", "many"] (defScope s_law_numbers44) := ⟨rfl, rfl, rfl, by decide +kernel, rfl, by decide +kernel, by decide +kernel⟩
abbrev N_law_tower46 : List Str := ["numbers", "height", "number", "k"]
theorem sc_law_tower46 : FnScope N_law_tower46 ["numbers", "height"] (defScope s_law_tower46) := ⟨rfl, rfl, rfl, by decide +kernel, rfl, by decide +kernel, by decide +kernel⟩
abbrev N_law_drawn46 : List Str := ["numbers", "odd", "v", "m"]
theorem sc_law_drawn46 : FnScope N_law_drawn46 ["numbers"] (defScope s_law_drawn46) := ⟨rfl, rfl, rfl, by decide +kernel, rfl, by decide +kernel, by decide +kernel⟩
abbrev N_law_low46 : List Str := ["numbers", "odd"]
theorem sc_law_low46 : FnScope N_law_low46 ["numbers"] (defScope s_law_low46) := ⟨rfl, rfl, rfl, by decide +kernel, rfl, by decide +kernel, by decide +kernel⟩
abbrev N_law_good46 : List Str := ["element", "number"]
theorem sc_law_good46 : FnScope N_law_good46 ["element"] (defScope s_law_good46) := ⟨rfl, rfl, rfl, by decide +kernel, rfl, by decide +kernel, by decide +kernel⟩
abbrev N_law_wide46 : List Str := ["first", "terms", "k"]
theorem sc_law_wide46 : FnScope N_law_wide46 ["first"] (defScope s_law_wide46) := ⟨rfl, rfl, rfl, by decide +kernel, rfl, by decide +kernel, by decide +kernel⟩
abbrev N_law_told46 : List Str := ["kind", "first", "second", "e"]
theorem sc_law_told46 : FnScope N_law_told46 ["kind", "first", "second"] (defScope s_law_told46) := ⟨rfl, rfl, rfl, by decide +kernel, rfl, by decide +kernel, by decide +kernel⟩
abbrev N_law_refused46 : List Str := ["low", "high", "one", "rows", "kind", "first", "second"]
theorem sc_law_refused46 : FnScope N_law_refused46 [] (defScope s_law_refused46) := ⟨rfl, rfl, rfl, by decide +kernel, rfl, by decide +kernel, by decide +kernel⟩
abbrev N_law_agrees46 : List Str := ["rows", "left", "row", "pair", "first", "second", "third", "other"]
theorem sc_law_agrees46 : FnScope N_law_agrees46 ["rows"] (defScope s_law_agrees46) := ⟨rfl, rfl, rfl, by decide +kernel, rfl, by decide +kernel, by decide +kernel⟩
abbrev N_law : List Str := ["script", "numbers", "rows", "k"]
theorem sc_law : FnScope N_law ["script"] (defScope s_law) := ⟨rfl, rfl, rfl, by decide +kernel, rfl, by decide +kernel, by decide +kernel⟩
theorem ok_signed_places {f : Addr} {fd : FuncData} {k : Nat} (D : DefAt K mg "signed_places" s_signed_places ["value"] f fd) : FnOk P w K mg base CX0 (k + 1) f fd ["value"] (sp_signed_places K) := by
  have nd := sc_signed_places.nd
  refine D.fn.ok sc_signed_places (fun vs H Q E h => spF1.len h) (fun cdv A outer s H vs Q E hr h => ⟨t_signed_places K, ?_, pure_signed_places h⟩)
  exact (pss_cons (ps_set (i := 1) nd rfl (.inl rfl) (pe_lst pa_nil))
      (pss_cons (ps_set (i := 2) nd rfl (.inl rfl) pe_int)
      (pss_cons (ps_while PassesOwn.never (pt_cmpR op_ne (pv 0) pe_int (nomark _)) (pss_cons (ps_set (i := 3) nd rfl (.inl rfl) (pe_op op_sub (pe_bits (pe_op op_low (pv 0) (pe_un un_neg (pv 0)))) pe_int))
      (pss_cons (ps_aug (i := 2) nd rfl (.inl rfl) (pv 3) ip_add)
      (pss_cons (ps_aug (i := 0) nd rfl (.inl rfl) (pv 3) ip_shr)
      (pss_cons (ps_set (i := 4) nd rfl (.inl rfl) (pe_op op_sub pe_int (pe_op op_andM (pv 0) pe_int)))
      (pss_cons (ps_expr (pe_bm PySem.F.plainAttrs_list PySem.F.slot_list_append PySem.F.type_list_append mt_append (pv 1) (pa_cons (pe_tup (pa_cons (pv 4) (pa_cons (pv 2) pa_nil))) pa_nil)))
      (pss_one (ps_aug (i := 0) nd rfl (.inl rfl) (pv 4) ip_sub))))))))
      (pss_one (ps_ret (pv 1))))))
theorem okh_signed_places {f : Addr} {fd : FuncData} {k : Nat} (D : DefAt K mg "signed_places" s_signed_places ["value"] f fd) : L2H.FnH P w K mg base CX0 (k + 1) f fd ["value"] (sp_signed_places K) := by
  have nd := sc_signed_places.nd
  refine okHot D.fn sc_signed_places (fun vs H Q E h => spF1.len h) (fun cdv A outer s H vs Q E p hot hr h => ⟨t_signed_places K, ?_, pure_signed_places h⟩)
  exact (pss_cons (ps_set (i := 1) nd rfl (.inl rfl) (pe_lst pa_nil))
      (pss_cons (ps_set (i := 2) nd rfl (.inl rfl) pe_int)
      (pss_cons (ps_while (passes_of rfl) (pt_cmpR op_ne (pv 0) pe_int (nomark _)) (pss_cons (ps_set (i := 3) nd rfl (.inl rfl) (pe_op op_sub (pe_bits (pe_op op_low (pv 0) (pe_un un_neg (pv 0)))) pe_int))
      (pss_cons (ps_aug (i := 2) nd rfl (.inl rfl) (pv 3) ip_add)
      (pss_cons (ps_aug (i := 0) nd rfl (.inl rfl) (pv 3) ip_shr)
      (pss_cons (ps_set (i := 4) nd rfl (.inl rfl) (pe_op op_sub pe_int (pe_op op_andM (pv 0) pe_int)))
      (pss_cons (ps_expr (pe_bm PySem.F.plainAttrs_list PySem.F.slot_list_append PySem.F.type_list_append mt_append (pv 1) (pa_cons (pe_tup (pa_cons (pv 4) (pa_cons (pv 2) pa_nil))) pa_nil)))
      (pss_one (ps_aug (i := 0) nd rfl (.inl rfl) (pv 4) ip_sub))))))))
      (pss_one (ps_ret (pv 1))))))
theorem ok_bare_number {f : Addr} {fd : FuncData} {k : Nat} {d : Nat} (D : DefAt K mg "bare_number" s_bare_number ["value"] f fd) {f_signed_places : Addr} {fd_signed_places : FuncData} {k_signed_places : Nat} (D_signed_places : DefAt K mg "signed_places" s_signed_places ["value"] f_signed_places fd_signed_places) (G_signed_places : FnOk P w K mg base CX0 k_signed_places f_signed_places fd_signed_places ["value"] (sp_signed_places K)) (hk_signed_places : k_signed_places ≤ k) (b_tuple : mg "tuple" = none) {t_FIRST_END : Tok} (m_FIRST_END : mg "FIRST_END" = some (.int 8 t_FIRST_END)) {a_FIRST_NUMBERS : Addr} (m_FIRST_NUMBERS : mg "FIRST_NUMBERS" = some (.ref a_FIRST_NUMBERS)) (d_FIRST_NUMBERS : FirstAt K a_FIRST_NUMBERS) (G_bare_number : FnOk P w K mg base CX0 k f fd ["value"] (sp_bare_number K d)) : FnOk P w K mg base CX0 (k + 1) f fd ["value"] (sp_bare_number K (d + 1)) := by
  have D_bare_number := D
  have nd := sc_bare_number.nd
  refine D.fn.ok sc_bare_number (fun vs H Q E h => spF1.len h) (fun cdv A outer s H vs Q E hr h => ⟨t_bare_number K a_FIRST_NUMBERS d, ?_, pure_bare_number d_FIRST_NUMBERS h⟩)
  exact (pss_cons (ps_if (pt_chain op_le op_lt pe_int (pv 0) (pe_glob rfl m_FIRST_END ⟨_, rfl⟩)) (pss_one (ps_ret (pe_ix ix_tup (pe_glob rfl m_FIRST_NUMBERS rfl) (pv 0) (fun _ _ => rfl)))) pss_nil)
      (pss_one (ps_ret (pe_tupleOf rfl b_tuple (pe_lc (own := [("sign", 1), ("place", 2)]) (g := (gTup K 2 (gCons (gName 1) (gCons (gName 2) gNil)))) (tt := tYes) (te := (tTup (tCons (tVar 1) (tCons (tCall (sp_bare_number K d) [] E0 (tCons (tVar 2) tNil)) tNil)))) rfl nd (pi_list (pe_revL (pe_call G_signed_places (hr.mono hk_signed_places) rfl D_signed_places.m D_signed_places.fn.kp D_signed_places.b .nil pass0 (pa_cons (pv 0) pa_nil)))) (blkOk_by (own := [("sign", 1), ("place", 2)]) (N := N_bare_number) (sc := defScope s_bare_number) (by decide +kernel)) (fun _ _ _ _ _ => (pg_tup rfl (pgs_cons (pg_name (i := 1) nd rfl (.inl rfl)) (pgs_cons (pg_name (i := 2) nd rfl (.inl rfl)) pgs_nil)))) (fun _ _ _ _ _ => pts_nil) (fun _ _ _ _ _ => (pe_tup (pa_cons (pv 1) (pa_cons (pe_call G_bare_number hr rfl D_bare_number.m D_bare_number.fn.kp D_bare_number.b .nil pass0 (pa_cons (pv 2) pa_nil)) pa_nil)))))))))
theorem okh_bare_number {f : Addr} {fd : FuncData} {k : Nat} {d : Nat} (D : DefAt K mg "bare_number" s_bare_number ["value"] f fd) {f_signed_places : Addr} {fd_signed_places : FuncData} {k_signed_places : Nat} (D_signed_places : DefAt K mg "signed_places" s_signed_places ["value"] f_signed_places fd_signed_places) (GH_signed_places : L2H.FnH P w K mg base CX0 k_signed_places f_signed_places fd_signed_places ["value"] (sp_signed_places K)) (hk_signed_places : k_signed_places ≤ k) (b_tuple : mg "tuple" = none) {t_FIRST_END : Tok} (m_FIRST_END : mg "FIRST_END" = some (.int 8 t_FIRST_END)) {a_FIRST_NUMBERS : Addr} (m_FIRST_NUMBERS : mg "FIRST_NUMBERS" = some (.ref a_FIRST_NUMBERS)) (d_FIRST_NUMBERS : FirstAt K a_FIRST_NUMBERS) (GH_bare_number : L2H.FnH P w K mg base CX0 k f fd ["value"] (sp_bare_number K d)) : L2H.FnH P w K mg base CX0 (k + 1) f fd ["value"] (sp_bare_number K (d + 1)) := by
  have D_bare_number := D
  have nd := sc_bare_number.nd
  refine okHot D.fn sc_bare_number (fun vs H Q E h => spF1.len h) (fun cdv A outer s H vs Q E p hot hr h => ⟨t_bare_number K a_FIRST_NUMBERS d, ?_, pure_bare_number d_FIRST_NUMBERS h⟩)
  exact (pss_cons (ps_if (pt_chain op_le op_lt pe_int (pv 0) (pe_glob rfl m_FIRST_END ⟨_, rfl⟩)) (pss_one (ps_ret (pe_ix ix_tup (pe_glob rfl m_FIRST_NUMBERS rfl) (pv 0) (fun _ _ => rfl)))) pss_nil)
      (pss_one (ps_ret (pe_tupleOf rfl b_tuple (pe_lcH (own := [("sign", 1), ("place", 2)]) (g := (gTup K 2 (gCons (gName 1) (gCons (gName 2) gNil)))) (tt := tYes) (te := (tTup (tCons (tVar 1) (tCons (tCall (sp_bare_number K d) [] E0 (tCons (tVar 2) tNil)) tNil)))) (hotC_mk hot List.mem_cons_self) nd (pi_listH (pe_revL (pe_callHot GH_signed_places (hr.mono hk_signed_places) (hotC_mk hot List.mem_cons_self) rfl D_signed_places.m D_signed_places.fn.kp D_signed_places.b (pa_cons (pv 0) pa_nil)))) (blkOk_by (own := [("sign", 1), ("place", 2)]) (N := N_bare_number) (sc := defScope s_bare_number) (by decide +kernel)) (fun _ _ _ _ _ => (pg_tupH (hotC_mk hot List.mem_cons_self) (pgs_cons (pg_name (i := 1) nd rfl (.inl rfl)) (pgs_cons (pg_name (i := 2) nd rfl (.inl rfl)) pgs_nil)))) (fun _ _ _ _ _ => pts_nil) (fun _ _ _ _ _ => (pe_tup (pa_cons (pv 1) (pa_cons (pe_callHot GH_bare_number hr (hotC_mk hot List.mem_cons_self) rfl D_bare_number.m D_bare_number.fn.kp D_bare_number.b (pa_cons (pv 2) pa_nil)) pa_nil)))))))))
theorem ok_value_within {f : Addr} {fd : FuncData} {k : Nat} {d : Nat} (D : DefAt K mg "value_within" s_value_within ["number", "bits"] f fd) {t_FIRST_END : Tok} (m_FIRST_END : mg "FIRST_END" = some (.int 8 t_FIRST_END)) {a_FIRST_NUMBERS : Addr} (m_FIRST_NUMBERS : mg "FIRST_NUMBERS" = some (.ref a_FIRST_NUMBERS)) (d_FIRST_NUMBERS : FirstAt K a_FIRST_NUMBERS) (G_value_within : FnOk P w K mg base CX0 k f fd ["number", "bits"] (sp_value_within K d)) : FnOk P w K mg base CX0 (k + 1) f fd ["number", "bits"] (sp_value_within K (d + 1)) := by
  have D_value_within := D
  have nd := sc_value_within.nd
  refine D.fn.ok sc_value_within (fun vs H Q E h => spF2.len h) (fun cdv A outer s H vs Q E hr h => ⟨t_value_within K a_FIRST_NUMBERS d, ?_, pure_value_within d_FIRST_NUMBERS h⟩)
  exact (pss_cons (ps_set (i := 2) nd rfl (.inl rfl) pe_int)
      (pss_cons (ps_for PassesOwn.never rfl (pi_tup (pv 0)) (pg_tup rfl (pgs_cons (pg_name (i := 3) nd rfl (.inl rfl)) (pgs_cons (pg_name (i := 4) nd rfl (.inl rfl)) pgs_nil))) (pss_cons (ps_if (pt_cmpR op_ge (pv 1) (pe_glob rfl m_FIRST_END ⟨_, rfl⟩) (nomark _)) (pss_one (ps_set (i := 5) nd rfl (.inl rfl) (pe_call G_value_within hr rfl D_value_within.m D_value_within.fn.kp D_value_within.b .nil pass0 (pa_cons (pv 4) (pa_cons (pe_bits (pv 1)) pa_nil))))) (pss_one (ps_if (pt_cmpR (op_inN (hu150 hr)) (pv 4) (pe_glob rfl m_FIRST_NUMBERS rfl) (by rfl)) (pss_one (ps_set (i := 5) nd rfl (.inl rfl) (pe_bm PySem.F.plainAttrs_tuple PySem.F.slot_tuple_index PySem.F.type_tuple_index (mt_indexN (hu150 hr)) (pe_glob rfl m_FIRST_NUMBERS rfl) (pa_cons (pv 4) pa_nil)))) (pss_one (ps_ret pe_non)))))
      (pss_cons (ps_if (PW.pt (pw_or (pt_cmpR op_isN (pv 5) pe_non (nomark _)) (pw_or1 (pt_cmpR op_gt (pv 5) (pv 1) (nomark _))))) (pss_one (ps_ret pe_non)) pss_nil)
      (pss_one (ps_aug (i := 2) nd rfl (.inl rfl) (pe_op op_shl (pv 3) (pv 5)) ip_add)))))
      (pss_one (ps_ret (pv 2)))))
theorem okh_value_within {f : Addr} {fd : FuncData} {k : Nat} {d : Nat} (D : DefAt K mg "value_within" s_value_within ["number", "bits"] f fd) {t_FIRST_END : Tok} (m_FIRST_END : mg "FIRST_END" = some (.int 8 t_FIRST_END)) {a_FIRST_NUMBERS : Addr} (m_FIRST_NUMBERS : mg "FIRST_NUMBERS" = some (.ref a_FIRST_NUMBERS)) (d_FIRST_NUMBERS : FirstAt K a_FIRST_NUMBERS) (GH_value_within : L2H.FnH P w K mg base CX0 k f fd ["number", "bits"] (sp_value_within K d)) : L2H.FnH P w K mg base CX0 (k + 1) f fd ["number", "bits"] (sp_value_within K (d + 1)) := by
  have D_value_within := D
  have nd := sc_value_within.nd
  refine okHot D.fn sc_value_within (fun vs H Q E h => spF2.len h) (fun cdv A outer s H vs Q E p hot hr h => ⟨t_value_within K a_FIRST_NUMBERS d, ?_, pure_value_within d_FIRST_NUMBERS h⟩)
  exact (pss_cons (ps_set (i := 2) nd rfl (.inl rfl) pe_int)
      (pss_cons (L2H.ps_forH (passes_of rfl) (hotC_mk hot List.mem_cons_self) (pi_tupH (pv 0)) (pg_tupH (hotC_mk hot List.mem_cons_self) (pgs_cons (pg_name (i := 3) nd rfl (.inl rfl)) (pgs_cons (pg_name (i := 4) nd rfl (.inl rfl)) pgs_nil))) (pss_cons (ps_if (pt_cmpR op_ge (pv 1) (pe_glob rfl m_FIRST_END ⟨_, rfl⟩) (nomark _)) (pss_one (ps_set (i := 5) nd rfl (.inl rfl) (pe_callHot GH_value_within hr (hotC_mk hot List.mem_cons_self) rfl D_value_within.m D_value_within.fn.kp D_value_within.b (pa_cons (pv 4) (pa_cons (pe_bits (pv 1)) pa_nil))))) (pss_one (ps_if (pt_cmpR (op_inN (hu150H hr)) (pv 4) (pe_glob rfl m_FIRST_NUMBERS rfl) (by rfl)) (pss_one (ps_set (i := 5) nd rfl (.inl rfl) (pe_bm PySem.F.plainAttrs_tuple PySem.F.slot_tuple_index PySem.F.type_tuple_index (mt_indexN (hu150H hr)) (pe_glob rfl m_FIRST_NUMBERS rfl) (pa_cons (pv 4) pa_nil)))) (pss_one (ps_ret pe_non)))))
      (pss_cons (ps_if (PW.pt (pw_or (pt_cmpR op_isN (pv 5) pe_non (nomark _)) (pw_or1 (pt_cmpR op_gt (pv 5) (pv 1) (nomark _))))) (pss_one (ps_ret pe_non)) pss_nil)
      (pss_one (ps_aug (i := 2) nd rfl (.inl rfl) (pe_op op_shl (pv 3) (pv 5)) ip_add)))))
      (pss_one (ps_ret (pv 2)))))
theorem ok_plus_small {f : Addr} {fd : FuncData} {k : Nat} (D : DefAt K mg "plus_small" s_plus_small ["number", "value"] f fd) {f_value_within : Addr} {fd_value_within : FuncData} {k_value_within : Nat} (D_value_within : DefAt K mg "value_within" s_value_within ["number", "bits"] f_value_within fd_value_within) (G_value_within : FnOk P w K mg base CX0 k_value_within f_value_within fd_value_within ["number", "bits"] (sp_value_within K 45)) (hk_value_within : k_value_within ≤ k) {f_bare_number : Addr} {fd_bare_number : FuncData} {k_bare_number : Nat} (D_bare_number : DefAt K mg "bare_number" s_bare_number ["value"] f_bare_number fd_bare_number) (G_bare_number : FnOk P w K mg base CX0 k_bare_number f_bare_number fd_bare_number ["value"] (sp_bare_number K 7)) (hk_bare_number : k_bare_number ≤ k) (b_len : mg "len" = none) : FnOk P w K mg base CX0 (k + 1) f fd ["number", "value"] (sp_plus_small K) := by
  have nd := sc_plus_small.nd
  refine D.fn.ok sc_plus_small (fun vs H Q E h => spF2.len h) (fun cdv A outer s H vs Q E hr h => ⟨t_plus_small K, ?_, pure_plus_small h⟩)
  exact (pss_cons (ps_if (pt_cmpR op_eq (pv 1) pe_int (nomark _)) (pss_one (ps_ret (pv 0))) pss_nil)
      (pss_cons (ps_set (i := 2) nd rfl (.inl rfl) (pe_callB call_len_seq (by rfl) b_len PySem.boot_len (pa_cons (pv 0) pa_nil)))
      (pss_cons (ps_while PassesOwn.never (pt_cmpR op_gt (pv 2) pe_int (nomark _)) (pss_cons (ps_asg (pe_ix ix_tup (pv 0) (pe_op op_sub (pv 2) pe_int) (fun _ _ => rfl)) (pg_tup rfl (pgs_cons (pg_name (i := 5) nd rfl (.inl rfl)) (pgs_cons (pg_name (i := 6) nd rfl (.inl rfl)) pgs_nil))))
      (pss_cons (ps_set (i := 3) nd rfl (.inl rfl) (pe_op op_add (pe_bits (pv 1)) pe_int))
      (pss_cons (ps_set (i := 4) nd rfl (.inl rfl) (pe_call G_value_within (hr.mono hk_value_within) rfl D_value_within.m D_value_within.fn.kp D_value_within.b .nil pass0 (pa_cons (pv 6) (pa_cons (pe_bits (pv 3)) pa_nil))))
      (pss_cons (ps_if (PW.pt (pw_or (pt_cmpR op_isN (pv 4) pe_non (nomark _)) (pw_or1 (pt_cmpR op_gt (pv 4) (pv 3) (nomark _))))) (pss_one ps_break) pss_nil)
      (pss_cons (ps_aug (i := 1) nd rfl (.inl rfl) (pe_op op_shl (pv 5) (pv 4)) ip_add)
      (pss_one (ps_aug (i := 2) nd rfl (.inl rfl) pe_int ip_sub))))))))
      (pss_one (ps_ret (pe_op op_catA (pe_slice sl_tupA (pv 0) po_none (po_some (pv 2))) (pe_call G_bare_number (hr.mono hk_bare_number) rfl D_bare_number.m D_bare_number.fn.kp D_bare_number.b .nil pass0 (pa_cons (pv 1) pa_nil))))))))
theorem okh_plus_small {f : Addr} {fd : FuncData} {k : Nat} (D : DefAt K mg "plus_small" s_plus_small ["number", "value"] f fd) {f_value_within : Addr} {fd_value_within : FuncData} {k_value_within : Nat} (D_value_within : DefAt K mg "value_within" s_value_within ["number", "bits"] f_value_within fd_value_within) (GH_value_within : L2H.FnH P w K mg base CX0 k_value_within f_value_within fd_value_within ["number", "bits"] (sp_value_within K 45)) (hk_value_within : k_value_within ≤ k) {f_bare_number : Addr} {fd_bare_number : FuncData} {k_bare_number : Nat} (D_bare_number : DefAt K mg "bare_number" s_bare_number ["value"] f_bare_number fd_bare_number) (GH_bare_number : L2H.FnH P w K mg base CX0 k_bare_number f_bare_number fd_bare_number ["value"] (sp_bare_number K 7)) (hk_bare_number : k_bare_number ≤ k) (b_len : mg "len" = none) : L2H.FnH P w K mg base CX0 (k + 1) f fd ["number", "value"] (sp_plus_small K) := by
  have nd := sc_plus_small.nd
  refine okHot D.fn sc_plus_small (fun vs H Q E h => spF2.len h) (fun cdv A outer s H vs Q E p hot hr h => ⟨t_plus_small K, ?_, pure_plus_small h⟩)
  exact (pss_cons (ps_if (pt_cmpR op_eq (pv 1) pe_int (nomark _)) (pss_one (ps_ret (pv 0))) pss_nil)
      (pss_cons (ps_set (i := 2) nd rfl (.inl rfl) (pe_callB call_len_seq (by rfl) b_len PySem.boot_len (pa_cons (pv 0) pa_nil)))
      (pss_cons (ps_while (passes_of rfl) (pt_cmpR op_gt (pv 2) pe_int (nomark _)) (pss_cons (ps_asg (pe_ix ix_tup (pv 0) (pe_op op_sub (pv 2) pe_int) (fun _ _ => rfl)) (pg_tupH (hotC_mk hot List.mem_cons_self) (pgs_cons (pg_name (i := 5) nd rfl (.inl rfl)) (pgs_cons (pg_name (i := 6) nd rfl (.inl rfl)) pgs_nil))))
      (pss_cons (ps_set (i := 3) nd rfl (.inl rfl) (pe_op op_add (pe_bits (pv 1)) pe_int))
      (pss_cons (ps_set (i := 4) nd rfl (.inl rfl) (pe_callHot GH_value_within (hr.mono hk_value_within) (hotC_mk hot List.mem_cons_self) rfl D_value_within.m D_value_within.fn.kp D_value_within.b (pa_cons (pv 6) (pa_cons (pe_bits (pv 3)) pa_nil))))
      (pss_cons (ps_if (PW.pt (pw_or (pt_cmpR op_isN (pv 4) pe_non (nomark _)) (pw_or1 (pt_cmpR op_gt (pv 4) (pv 3) (nomark _))))) (pss_one ps_break) pss_nil)
      (pss_cons (ps_aug (i := 1) nd rfl (.inl rfl) (pe_op op_shl (pv 5) (pv 4)) ip_add)
      (pss_one (ps_aug (i := 2) nd rfl (.inl rfl) pe_int ip_sub))))))))
      (pss_one (ps_ret (pe_op op_catA (pe_slice sl_tupA (pv 0) po_none (po_some (pv 2))) (pe_callHot GH_bare_number (hr.mono hk_bare_number) (hotC_mk hot List.mem_cons_self) rfl D_bare_number.m D_bare_number.fn.kp D_bare_number.b (pa_cons (pv 1) pa_nil))))))))
theorem ok_order {f : Addr} {fd : FuncData} {k : Nat} (D : DefAt K mg "order" s_order ["first", "second"] f fd) (b_zip : mg "zip" = none) (b_len : mg "len" = none) : FnOk P w K mg base CX0 (k + 1) f fd ["first", "second"] (sp_order K) := by
  have nd := sc_order.nd
  refine D.fn.ok sc_order (fun vs H Q E h => spF2.len h) (fun cdv A outer s H vs Q E hr h => ⟨t_order K, ?_, pure_order h⟩)
  exact (pss_cons (ps_if (pt_cmpR (op_eqN (hu150 hr)) (pv 0) (pv 1) (nomark _)) (pss_one (ps_ret pe_int)) pss_nil)
      (pss_cons (ps_set (i := 2) nd rfl (.inl rfl) pe_int)
      (pss_cons (ps_while PassesOwn.never (PW.pt (pw_and (pt_truth (pv 0) (by intro _; rfl)) (pw_and1 (pt_truth (pv 1) (by intro _; rfl))))) (pss_cons (ps_forE PassesOwn.never rfl (RZ.pi_zipA (by rfl) b_zip (pa_cons (pv 0) (pa_cons (pv 1) pa_nil))) (pg_tup rfl (pgs_cons (pg_name (i := 3) nd rfl (.inl rfl)) (pgs_cons (pg_name (i := 4) nd rfl (.inl rfl)) pgs_nil))) (pss_one (ps_if (pt_cmpR (op_neN (hu150 hr)) (pv 3) (pv 4) (nomark _)) (pss_one ps_break) pss_nil)) (pss_cons (ps_par (by rfl) nd rfl rfl (by decide) rfl rfl (pa_cons (pe_slice sl_tupA (pv 0) (po_some (pe_callB call_len_seq (by rfl) b_len PySem.boot_len (pa_cons (pv 1) pa_nil))) po_none) (pa_cons (pe_slice sl_tupA (pv 1) (po_some (pe_callB call_len_seq (by rfl) b_len PySem.boot_len (pa_cons (pv 0) pa_nil))) po_none) pa_nil)) (by rfl))
      (pss_one ps_break)))
      (pss_cons (ps_asg (pv 3) (pg_tup rfl (pgs_cons (pg_name (i := 5) nd rfl (.inl rfl)) (pgs_cons (pg_name (i := 0) nd rfl (.inl rfl)) pgs_nil))))
      (pss_cons (ps_asg (pv 4) (pg_tup rfl (pgs_cons (pg_name (i := 6) nd rfl (.inl rfl)) (pgs_cons (pg_name (i := 1) nd rfl (.inl rfl)) pgs_nil))))
      (pss_cons (ps_if (pt_cmpR op_ne (pv 5) (pv 6) (nomark _)) (pss_one (ps_ret (pe_op op_mul (pv 2) (pv 5)))) pss_nil)
      (pss_one (ps_aug (i := 2) nd rfl (.inl rfl) (pv 5) ip_mul)))))))
      (pss_one (ps_ret (pe_ifExp (pt_truth (pv 0) (by intro _; rfl)) (pe_op op_mul (pv 2) (pe_ix ix_tup (pe_ix ix_tup (pv 0) pe_int (fun _ _ => rfl)) pe_int (fun _ _ => rfl))) (pe_op op_mul (pe_un un_neg (pv 2)) (pe_ix ix_tup (pe_ix ix_tup (pv 1) pe_int (fun _ _ => rfl)) pe_int (fun _ _ => rfl)))))))))
theorem okh_order {f : Addr} {fd : FuncData} {k : Nat} (D : DefAt K mg "order" s_order ["first", "second"] f fd) (b_zip : mg "zip" = none) (b_len : mg "len" = none) : L2H.FnH P w K mg base CX0 (k + 1) f fd ["first", "second"] (sp_order K) := by
  have nd := sc_order.nd
  refine okHot D.fn sc_order (fun vs H Q E h => spF2.len h) (fun cdv A outer s H vs Q E p hot hr h => ⟨t_order K, ?_, pure_order h⟩)
  exact (pss_cons (ps_if (pt_cmpR (op_eqN (hu150H hr)) (pv 0) (pv 1) (nomark _)) (pss_one (ps_ret pe_int)) pss_nil)
      (pss_cons (ps_set (i := 2) nd rfl (.inl rfl) pe_int)
      (pss_cons (ps_while (passes_of rfl) (PW.pt (pw_and (pt_truth (pv 0) (by intro _; rfl)) (pw_and1 (pt_truth (pv 1) (by intro _; rfl))))) (pss_cons (ps_forEH (passes_of rfl) (hotC_mk hot List.mem_cons_self) (pi_zipAH (by rfl) b_zip (pa_cons (pv 0) (pa_cons (pv 1) pa_nil))) (pg_tupH (hotC_mk hot List.mem_cons_self) (pgs_cons (pg_name (i := 3) nd rfl (.inl rfl)) (pgs_cons (pg_name (i := 4) nd rfl (.inl rfl)) pgs_nil))) (pss_one (ps_if (pt_cmpR (op_neN (hu150H hr)) (pv 3) (pv 4) (nomark _)) (pss_one ps_break) pss_nil)) (pss_cons (ps_parH (hotC_mk hot List.mem_cons_self) nd rfl rfl (by decide) rfl rfl (pa_cons (pe_slice sl_tupA (pv 0) (po_some (pe_callB call_len_seq (by rfl) b_len PySem.boot_len (pa_cons (pv 1) pa_nil))) po_none) (pa_cons (pe_slice sl_tupA (pv 1) (po_some (pe_callB call_len_seq (by rfl) b_len PySem.boot_len (pa_cons (pv 0) pa_nil))) po_none) pa_nil)) (by rfl))
      (pss_one ps_break)))
      (pss_cons (ps_asg (pv 3) (pg_tupH (hotC_mk hot List.mem_cons_self) (pgs_cons (pg_name (i := 5) nd rfl (.inl rfl)) (pgs_cons (pg_name (i := 0) nd rfl (.inl rfl)) pgs_nil))))
      (pss_cons (ps_asg (pv 4) (pg_tupH (hotC_mk hot List.mem_cons_self) (pgs_cons (pg_name (i := 6) nd rfl (.inl rfl)) (pgs_cons (pg_name (i := 1) nd rfl (.inl rfl)) pgs_nil))))
      (pss_cons (ps_if (pt_cmpR op_ne (pv 5) (pv 6) (nomark _)) (pss_one (ps_ret (pe_op op_mul (pv 2) (pv 5)))) pss_nil)
      (pss_one (ps_aug (i := 2) nd rfl (.inl rfl) (pv 5) ip_mul)))))))
      (pss_one (ps_ret (pe_ifExp (pt_truth (pv 0) (by intro _; rfl)) (pe_op op_mul (pv 2) (pe_ix ix_tup (pe_ix ix_tup (pv 0) pe_int (fun _ _ => rfl)) pe_int (fun _ _ => rfl))) (pe_op op_mul (pe_un un_neg (pv 2)) (pe_ix ix_tup (pe_ix ix_tup (pv 1) pe_int (fun _ _ => rfl)) pe_int (fun _ _ => rfl)))))))))
theorem ok_gap {f : Addr} {fd : FuncData} {k : Nat} (D : DefAt K mg "gap" s_gap ["first", "second"] f fd) {f_value_within : Addr} {fd_value_within : FuncData} {k_value_within : Nat} (D_value_within : DefAt K mg "value_within" s_value_within ["number", "bits"] f_value_within fd_value_within) (G_value_within : FnOk P w K mg base CX0 k_value_within f_value_within fd_value_within ["number", "bits"] (sp_value_within K 45)) (hk_value_within : k_value_within ≤ k) (b_zip : mg "zip" = none) (b_len : mg "len" = none) {t_NEAR_BITS : Tok} (m_NEAR_BITS : mg "NEAR_BITS" = some (.int 64 t_NEAR_BITS)) : FnOk P w K mg base CX0 (k + 1) f fd ["first", "second"] (sp_gap K) := by
  have nd := sc_gap.nd
  refine D.fn.ok sc_gap (fun vs H Q E h => spF2.len h) (fun cdv A outer s H vs Q E hr h => ⟨t_gap K, ?_, pure_gap h⟩)
  exact (pss_cons (ps_set (i := 2) nd rfl (.inl rfl) pe_int)
      (pss_cons (ps_for PassesOwn.never rfl (RZ.pi_zipA (by rfl) b_zip (pa_cons (pv 0) (pa_cons (pv 1) pa_nil))) (pg_tup rfl (pgs_cons (pg_name (i := 8) nd rfl (.inl rfl)) (pgs_cons (pg_name (i := 9) nd rfl (.inl rfl)) pgs_nil))) (pss_cons (ps_if (pt_cmpR (op_neN (hu150 hr)) (pv 8) (pv 9) (nomark _)) (pss_one ps_break) pss_nil)
      (pss_one (ps_aug (i := 2) nd rfl (.inl rfl) pe_int ip_add))))
      (pss_cons (ps_set (i := 3) nd rfl (.inl rfl) (pe_slice sl_tupA (pv 0) (po_some (pv 2)) po_none))
      (pss_cons (ps_set (i := 4) nd rfl (.inl rfl) (pe_slice sl_tupA (pv 1) (po_some (pv 2)) po_none))
      (pss_cons (ps_set (i := 5) nd rfl (.inl rfl) (pe_op op_add (pe_glob rfl m_NEAR_BITS ⟨_, rfl⟩) (pe_op op_mul pe_int (pe_op op_add (pe_callB call_len_seq (by rfl) b_len PySem.boot_len (pa_cons (pv 3) pa_nil)) (pe_callB call_len_seq (by rfl) b_len PySem.boot_len (pa_cons (pv 4) pa_nil))))))
      (pss_cons (ps_set (i := 6) nd rfl (.inl rfl) (pe_call G_value_within (hr.mono hk_value_within) rfl D_value_within.m D_value_within.fn.kp D_value_within.b .nil pass0 (pa_cons (pv 3) (pa_cons (pv 5) pa_nil))))
      (pss_cons (ps_if (pt_cmpR op_isN (pv 6) pe_non (nomark _)) (pss_one (ps_ret pe_non)) pss_nil)
      (pss_cons (ps_set (i := 7) nd rfl (.inl rfl) (pe_call G_value_within (hr.mono hk_value_within) rfl D_value_within.m D_value_within.fn.kp D_value_within.b .nil pass0 (pa_cons (pv 4) (pa_cons (pv 5) pa_nil))))
      (pss_one (ps_ret (pe_ifExp (pt_cmpR op_isN (pv 7) pe_non (nomark _)) pe_non (pe_op op_sub (pv 6) (pv 7)))))))))))))
theorem okh_gap {f : Addr} {fd : FuncData} {k : Nat} (D : DefAt K mg "gap" s_gap ["first", "second"] f fd) {f_value_within : Addr} {fd_value_within : FuncData} {k_value_within : Nat} (D_value_within : DefAt K mg "value_within" s_value_within ["number", "bits"] f_value_within fd_value_within) (GH_value_within : L2H.FnH P w K mg base CX0 k_value_within f_value_within fd_value_within ["number", "bits"] (sp_value_within K 45)) (hk_value_within : k_value_within ≤ k) (b_zip : mg "zip" = none) (b_len : mg "len" = none) {t_NEAR_BITS : Tok} (m_NEAR_BITS : mg "NEAR_BITS" = some (.int 64 t_NEAR_BITS)) : L2H.FnH P w K mg base CX0 (k + 1) f fd ["first", "second"] (sp_gap K) := by
  have nd := sc_gap.nd
  refine okHot D.fn sc_gap (fun vs H Q E h => spF2.len h) (fun cdv A outer s H vs Q E p hot hr h => ⟨t_gap K, ?_, pure_gap h⟩)
  exact (pss_cons (ps_set (i := 2) nd rfl (.inl rfl) pe_int)
      (pss_cons (L2H.ps_forH (passes_of rfl) (hotC_mk hot List.mem_cons_self) (pi_zipAH (by rfl) b_zip (pa_cons (pv 0) (pa_cons (pv 1) pa_nil))) (pg_tupH (hotC_mk hot List.mem_cons_self) (pgs_cons (pg_name (i := 8) nd rfl (.inl rfl)) (pgs_cons (pg_name (i := 9) nd rfl (.inl rfl)) pgs_nil))) (pss_cons (ps_if (pt_cmpR (op_neN (hu150H hr)) (pv 8) (pv 9) (nomark _)) (pss_one ps_break) pss_nil)
      (pss_one (ps_aug (i := 2) nd rfl (.inl rfl) pe_int ip_add))))
      (pss_cons (ps_set (i := 3) nd rfl (.inl rfl) (pe_slice sl_tupA (pv 0) (po_some (pv 2)) po_none))
      (pss_cons (ps_set (i := 4) nd rfl (.inl rfl) (pe_slice sl_tupA (pv 1) (po_some (pv 2)) po_none))
      (pss_cons (ps_set (i := 5) nd rfl (.inl rfl) (pe_op op_add (pe_glob rfl m_NEAR_BITS ⟨_, rfl⟩) (pe_op op_mul pe_int (pe_op op_add (pe_callB call_len_seq (by rfl) b_len PySem.boot_len (pa_cons (pv 3) pa_nil)) (pe_callB call_len_seq (by rfl) b_len PySem.boot_len (pa_cons (pv 4) pa_nil))))))
      (pss_cons (ps_set (i := 6) nd rfl (.inl rfl) (pe_callHot GH_value_within (hr.mono hk_value_within) (hotC_mk hot List.mem_cons_self) rfl D_value_within.m D_value_within.fn.kp D_value_within.b (pa_cons (pv 3) (pa_cons (pv 5) pa_nil))))
      (pss_cons (ps_if (pt_cmpR op_isN (pv 6) pe_non (nomark _)) (pss_one (ps_ret pe_non)) pss_nil)
      (pss_cons (ps_set (i := 7) nd rfl (.inl rfl) (pe_callHot GH_value_within (hr.mono hk_value_within) (hotC_mk hot List.mem_cons_self) rfl D_value_within.m D_value_within.fn.kp D_value_within.b (pa_cons (pv 4) (pa_cons (pv 5) pa_nil))))
      (pss_one (ps_ret (pe_ifExp (pt_cmpR op_isN (pv 7) pe_non (nomark _)) pe_non (pe_op op_sub (pv 6) (pv 7)))))))))))))
theorem ok_terms_at {f : Addr} {fd : FuncData} {k : Nat} (D : DefAt K mg "terms_at" s_terms_at ["base", "value"] f fd) {f_signed_places : Addr} {fd_signed_places : FuncData} {k_signed_places : Nat} (D_signed_places : DefAt K mg "signed_places" s_signed_places ["value"] f_signed_places fd_signed_places) (G_signed_places : FnOk P w K mg base CX0 k_signed_places f_signed_places fd_signed_places ["value"] (sp_signed_places K)) (hk_signed_places : k_signed_places ≤ k) {f_plus_small : Addr} {fd_plus_small : FuncData} {k_plus_small : Nat} (D_plus_small : DefAt K mg "plus_small" s_plus_small ["number", "value"] f_plus_small fd_plus_small) (G_plus_small : FnOk P w K mg base CX0 k_plus_small f_plus_small fd_plus_small ["number", "value"] (sp_plus_small K)) (hk_plus_small : k_plus_small ≤ k) : FnOk P w K mg base CX0 (k + 1) f fd ["base", "value"] (sp_terms_at K) := by
  have nd := sc_terms_at.nd
  refine D.fn.ok sc_terms_at (fun vs H Q E h => spF2.len h) (fun cdv A outer s H vs Q E hr h => ⟨t_terms_at K, ?_, pure_terms_at h⟩)
  exact (pss_cons (ps_if (PW.pt (pw_or (pt_cmpR op_eq (pv 1) pe_int (nomark _)) (pw_or1 (pt_cmpR op_eq (pv 1) (pe_un un_neg pe_int) (nomark _))))) (pss_one (ps_ret (pe_lst (pa_cons (pe_tup (pa_cons (pv 1) (pa_cons (pv 0) pa_nil))) pa_nil)))) pss_nil)
      (pss_one (ps_ret (pe_lc (own := [("sign", 2), ("place", 3)]) (g := (gTup K 2 (gCons (gName 2) (gCons (gName 3) gNil)))) (tt := tYes) (te := (tTup (tCons (tVar 2) (tCons (tCall (sp_plus_small K) [] E0 (tCons (tVar 0) (tCons (tVar 3) tNil))) tNil)))) rfl nd (pi_list (pe_call G_signed_places (hr.mono hk_signed_places) rfl D_signed_places.m D_signed_places.fn.kp D_signed_places.b .nil pass0 (pa_cons (pv 1) pa_nil))) (blkOk_by (own := [("sign", 2), ("place", 3)]) (N := N_terms_at) (sc := defScope s_terms_at) (by decide +kernel)) (fun _ _ _ _ _ => (pg_tup rfl (pgs_cons (pg_name (i := 2) nd rfl (.inl rfl)) (pgs_cons (pg_name (i := 3) nd rfl (.inl rfl)) pgs_nil)))) (fun _ _ _ _ _ => pts_nil) (fun _ _ _ _ _ => (pe_tup (pa_cons (pv 2) (pa_cons (pe_call G_plus_small (hr.mono hk_plus_small) rfl D_plus_small.m D_plus_small.fn.kp D_plus_small.b .nil pass0 (pa_cons (pv 0) (pa_cons (pv 3) pa_nil))) pa_nil))))))))
theorem okh_terms_at {f : Addr} {fd : FuncData} {k : Nat} (D : DefAt K mg "terms_at" s_terms_at ["base", "value"] f fd) {f_signed_places : Addr} {fd_signed_places : FuncData} {k_signed_places : Nat} (D_signed_places : DefAt K mg "signed_places" s_signed_places ["value"] f_signed_places fd_signed_places) (GH_signed_places : L2H.FnH P w K mg base CX0 k_signed_places f_signed_places fd_signed_places ["value"] (sp_signed_places K)) (hk_signed_places : k_signed_places ≤ k) {f_plus_small : Addr} {fd_plus_small : FuncData} {k_plus_small : Nat} (D_plus_small : DefAt K mg "plus_small" s_plus_small ["number", "value"] f_plus_small fd_plus_small) (GH_plus_small : L2H.FnH P w K mg base CX0 k_plus_small f_plus_small fd_plus_small ["number", "value"] (sp_plus_small K)) (hk_plus_small : k_plus_small ≤ k) : L2H.FnH P w K mg base CX0 (k + 1) f fd ["base", "value"] (sp_terms_at K) := by
  have nd := sc_terms_at.nd
  refine okHot D.fn sc_terms_at (fun vs H Q E h => spF2.len h) (fun cdv A outer s H vs Q E p hot hr h => ⟨t_terms_at K, ?_, pure_terms_at h⟩)
  exact (pss_cons (ps_if (PW.pt (pw_or (pt_cmpR op_eq (pv 1) pe_int (nomark _)) (pw_or1 (pt_cmpR op_eq (pv 1) (pe_un un_neg pe_int) (nomark _))))) (pss_one (ps_ret (pe_lst (pa_cons (pe_tup (pa_cons (pv 1) (pa_cons (pv 0) pa_nil))) pa_nil)))) pss_nil)
      (pss_one (ps_ret (pe_lcH (own := [("sign", 2), ("place", 3)]) (g := (gTup K 2 (gCons (gName 2) (gCons (gName 3) gNil)))) (tt := tYes) (te := (tTup (tCons (tVar 2) (tCons (tCall (sp_plus_small K) [] E0 (tCons (tVar 0) (tCons (tVar 3) tNil))) tNil)))) (hotC_mk hot List.mem_cons_self) nd (pi_listH (pe_callHot GH_signed_places (hr.mono hk_signed_places) (hotC_mk hot List.mem_cons_self) rfl D_signed_places.m D_signed_places.fn.kp D_signed_places.b (pa_cons (pv 1) pa_nil))) (blkOk_by (own := [("sign", 2), ("place", 3)]) (N := N_terms_at) (sc := defScope s_terms_at) (by decide +kernel)) (fun _ _ _ _ _ => (pg_tupH (hotC_mk hot List.mem_cons_self) (pgs_cons (pg_name (i := 2) nd rfl (.inl rfl)) (pgs_cons (pg_name (i := 3) nd rfl (.inl rfl)) pgs_nil)))) (fun _ _ _ _ _ => pts_nil) (fun _ _ _ _ _ => (pe_tup (pa_cons (pv 2) (pa_cons (pe_callHot GH_plus_small (hr.mono hk_plus_small) (hotC_mk hot List.mem_cons_self) rfl D_plus_small.m D_plus_small.fn.kp D_plus_small.b (pa_cons (pv 0) (pa_cons (pv 3) pa_nil))) pa_nil))))))))
theorem ok_settled {f : Addr} {fd : FuncData} {k : Nat} (D : DefAt K mg "settled" s_settled ["row", "many"] f fd) {f_gap : Addr} {fd_gap : FuncData} {k_gap : Nat} (D_gap : DefAt K mg "gap" s_gap ["first", "second"] f_gap fd_gap) (G_gap : FnOk P w K mg base CX0 k_gap f_gap fd_gap ["first", "second"] (sp_gap K)) (hk_gap : k_gap ≤ k) {f_terms_at : Addr} {fd_terms_at : FuncData} {k_terms_at : Nat} (D_terms_at : DefAt K mg "terms_at" s_terms_at ["base", "value"] f_terms_at fd_terms_at) (G_terms_at : FnOk P w K mg base CX0 k_terms_at f_terms_at fd_terms_at ["base", "value"] (sp_terms_at K)) (hk_terms_at : k_terms_at ≤ k) (b_len : mg "len" = none) (b_tuple : mg "tuple" = none) : FnOk P w K mg base CX0 (k + 1) f fd ["row", "many"] (sp_settled K) := by
  have nd := sc_settled.nd
  refine D.fn.ok sc_settled (fun vs H Q E h => spF2.len h) (fun cdv A outer s H vs Q E hr h => ⟨t_settled K, ?_, pure_settled h⟩)
  exact (pss_cons (ps_set (i := 2) nd rfl (.inl rfl) (pe_lst pa_nil))
      (pss_cons (ps_set (i := 3) nd rfl (.inl rfl) pe_int)
      (pss_cons (ps_while PassesOwn.never (pt_cmpR op_lt (pv 3) (pv 1) (nomark _)) (pss_cons (ps_asg (pe_ix ix_list (pv 0) (pv 3) (fun _ _ => rfl)) (pg_tup rfl (pgs_cons (pg_name (i := 4) nd rfl (.inl rfl)) (pgs_cons (pg_name (i := 5) nd rfl (.inl rfl)) pgs_nil))))
      (pss_cons (ps_aug (i := 3) nd rfl (.inl rfl) pe_int ip_add)
      (pss_cons (ps_while PassesOwn.never (pt_cmpR op_lt (pv 3) (pe_callB call_len_seq (by rfl) b_len PySem.boot_len (pa_cons (pv 0) pa_nil)) (nomark _)) (pss_cons (ps_set (i := 6) nd rfl (.inl rfl) (pe_call G_gap (hr.mono hk_gap) rfl D_gap.m D_gap.fn.kp D_gap.b .nil pass0 (pa_cons (pe_ix ix_tup (pe_ix ix_list (pv 0) (pv 3) (fun _ _ => rfl)) pe_int (fun _ _ => rfl)) (pa_cons (pv 5) pa_nil))))
      (pss_cons (ps_if (PW.pt (pw_or (pt_cmpR op_isN (pv 6) pe_non (nomark _)) (pw_or1 (pt_cmpR op_gt (pv 6) (pe_op op_add (pe_bits (pv 4)) pe_int) (nomark _))))) (pss_one ps_break) pss_nil)
      (pss_cons (ps_aug (i := 4) nd rfl (.inl rfl) (pe_op op_shl (pe_ix ix_tup (pe_ix ix_list (pv 0) (pv 3) (fun _ _ => rfl)) pe_int (fun _ _ => rfl)) (pv 6)) ip_add)
      (pss_one (ps_aug (i := 3) nd rfl (.inl rfl) pe_int ip_add))))))
      (pss_one (ps_expr (pe_bm PySem.F.plainAttrs_list PySem.F.slot_list_extend PySem.F.type_list_extend mt_extend (pv 2) (pa_cons (pe_call G_terms_at (hr.mono hk_terms_at) rfl D_terms_at.m D_terms_at.fn.kp D_terms_at.b .nil pass0 (pa_cons (pv 5) (pa_cons (pv 4) pa_nil))) pa_nil))))))))
      (pss_cons (ps_expr (pe_bm PySem.F.plainAttrs_list PySem.F.slot_list_extend PySem.F.type_list_extend mt_extend (pv 2) (pa_cons (pe_slice sl_list (pv 0) (po_some (pv 3)) po_none) pa_nil)))
      (pss_one (ps_ret (pe_tupleOf rfl b_tuple (pe_revL (pv 2)))))))))
theorem okh_settled {f : Addr} {fd : FuncData} {k : Nat} (D : DefAt K mg "settled" s_settled ["row", "many"] f fd) {f_gap : Addr} {fd_gap : FuncData} {k_gap : Nat} (D_gap : DefAt K mg "gap" s_gap ["first", "second"] f_gap fd_gap) (GH_gap : L2H.FnH P w K mg base CX0 k_gap f_gap fd_gap ["first", "second"] (sp_gap K)) (hk_gap : k_gap ≤ k) {f_terms_at : Addr} {fd_terms_at : FuncData} {k_terms_at : Nat} (D_terms_at : DefAt K mg "terms_at" s_terms_at ["base", "value"] f_terms_at fd_terms_at) (GH_terms_at : L2H.FnH P w K mg base CX0 k_terms_at f_terms_at fd_terms_at ["base", "value"] (sp_terms_at K)) (hk_terms_at : k_terms_at ≤ k) (b_len : mg "len" = none) (b_tuple : mg "tuple" = none) : L2H.FnH P w K mg base CX0 (k + 1) f fd ["row", "many"] (sp_settled K) := by
  have nd := sc_settled.nd
  refine okHot D.fn sc_settled (fun vs H Q E h => spF2.len h) (fun cdv A outer s H vs Q E p hot hr h => ⟨t_settled K, ?_, pure_settled h⟩)
  exact (pss_cons (ps_set (i := 2) nd rfl (.inl rfl) (pe_lst pa_nil))
      (pss_cons (ps_set (i := 3) nd rfl (.inl rfl) pe_int)
      (pss_cons (ps_while (passes_of rfl) (pt_cmpR op_lt (pv 3) (pv 1) (nomark _)) (pss_cons (ps_asg (pe_ix ix_list (pv 0) (pv 3) (fun _ _ => rfl)) (pg_tupH (hotC_mk hot List.mem_cons_self) (pgs_cons (pg_name (i := 4) nd rfl (.inl rfl)) (pgs_cons (pg_name (i := 5) nd rfl (.inl rfl)) pgs_nil))))
      (pss_cons (ps_aug (i := 3) nd rfl (.inl rfl) pe_int ip_add)
      (pss_cons (ps_while (passes_of rfl) (pt_cmpR op_lt (pv 3) (pe_callB call_len_seq (by rfl) b_len PySem.boot_len (pa_cons (pv 0) pa_nil)) (nomark _)) (pss_cons (ps_set (i := 6) nd rfl (.inl rfl) (pe_callHot GH_gap (hr.mono hk_gap) (hotC_mk hot List.mem_cons_self) rfl D_gap.m D_gap.fn.kp D_gap.b (pa_cons (pe_ix ix_tup (pe_ix ix_list (pv 0) (pv 3) (fun _ _ => rfl)) pe_int (fun _ _ => rfl)) (pa_cons (pv 5) pa_nil))))
      (pss_cons (ps_if (PW.pt (pw_or (pt_cmpR op_isN (pv 6) pe_non (nomark _)) (pw_or1 (pt_cmpR op_gt (pv 6) (pe_op op_add (pe_bits (pv 4)) pe_int) (nomark _))))) (pss_one ps_break) pss_nil)
      (pss_cons (ps_aug (i := 4) nd rfl (.inl rfl) (pe_op op_shl (pe_ix ix_tup (pe_ix ix_list (pv 0) (pv 3) (fun _ _ => rfl)) pe_int (fun _ _ => rfl)) (pv 6)) ip_add)
      (pss_one (ps_aug (i := 3) nd rfl (.inl rfl) pe_int ip_add))))))
      (pss_one (ps_expr (pe_bm PySem.F.plainAttrs_list PySem.F.slot_list_extend PySem.F.type_list_extend mt_extend (pv 2) (pa_cons (pe_callHot GH_terms_at (hr.mono hk_terms_at) (hotC_mk hot List.mem_cons_self) rfl D_terms_at.m D_terms_at.fn.kp D_terms_at.b (pa_cons (pv 5) (pa_cons (pv 4) pa_nil))) pa_nil))))))))
      (pss_cons (ps_expr (pe_bm PySem.F.plainAttrs_list PySem.F.slot_list_extend PySem.F.type_list_extend mt_extend (pv 2) (pa_cons (pe_slice sl_list (pv 0) (po_some (pv 3)) po_none) pa_nil)))
      (pss_one (ps_ret (pe_tupleOf rfl b_tuple (pe_revL (pv 2)))))))))
theorem ok_plus {f : Addr} {fd : FuncData} {k : Nat} (D : DefAt K mg "plus" s_plus ["first", "second"] f fd) {f_value_within : Addr} {fd_value_within : FuncData} {k_value_within : Nat} (D_value_within : DefAt K mg "value_within" s_value_within ["number", "bits"] f_value_within fd_value_within) (G_value_within : FnOk P w K mg base CX0 k_value_within f_value_within fd_value_within ["number", "bits"] (sp_value_within K 45)) (hk_value_within : k_value_within ≤ k) {f_plus_small : Addr} {fd_plus_small : FuncData} {k_plus_small : Nat} (D_plus_small : DefAt K mg "plus_small" s_plus_small ["number", "value"] f_plus_small fd_plus_small) (G_plus_small : FnOk P w K mg base CX0 k_plus_small f_plus_small fd_plus_small ["number", "value"] (sp_plus_small K)) (hk_plus_small : k_plus_small ≤ k) {f_order : Addr} {fd_order : FuncData} {k_order : Nat} (D_order : DefAt K mg "order" s_order ["first", "second"] f_order fd_order) (G_order : FnOk P w K mg base CX0 k_order f_order fd_order ["first", "second"] (sp_order K)) (hk_order : k_order ≤ k) {f_settled : Addr} {fd_settled : FuncData} {k_settled : Nat} (D_settled : DefAt K mg "settled" s_settled ["row", "many"] f_settled fd_settled) (G_settled : FnOk P w K mg base CX0 k_settled f_settled fd_settled ["row", "many"] (sp_settled K)) (hk_settled : k_settled ≤ k) (b_len : mg "len" = none) (b_list : mg "list" = none) {t_INTEGER_BITS : Tok} (m_INTEGER_BITS : mg "INTEGER_BITS" = some (.int 512 t_INTEGER_BITS)) : FnOk P w K mg base CX0 (k + 1) f fd ["first", "second"] (sp_plus K) := by
  have nd := sc_plus.nd
  refine D.fn.ok sc_plus (fun vs H Q E h => spF2.len h) (fun cdv A outer s H vs Q E hr h => ⟨t_plus K, ?_, pure_plus h⟩)
  exact (pss_cons (ps_set (i := 2) nd rfl (.inl rfl) (pe_call G_value_within (hr.mono hk_value_within) rfl D_value_within.m D_value_within.fn.kp D_value_within.b .nil pass0 (pa_cons (pv 1) (pa_cons (pe_glob rfl m_INTEGER_BITS ⟨_, rfl⟩) pa_nil))))
      (pss_cons (ps_if (pt_cmpR op_notN (pv 2) pe_non (nomark _)) (pss_one (ps_ret (pe_call G_plus_small (hr.mono hk_plus_small) rfl D_plus_small.m D_plus_small.fn.kp D_plus_small.b .nil pass0 (pa_cons (pv 0) (pa_cons (pv 2) pa_nil))))) pss_nil)
      (pss_cons (ps_set (i := 2) nd rfl (.inl rfl) (pe_call G_value_within (hr.mono hk_value_within) rfl D_value_within.m D_value_within.fn.kp D_value_within.b .nil pass0 (pa_cons (pv 0) (pa_cons (pe_glob rfl m_INTEGER_BITS ⟨_, rfl⟩) pa_nil))))
      (pss_cons (ps_if (pt_cmpR op_notN (pv 2) pe_non (nomark _)) (pss_one (ps_ret (pe_call G_plus_small (hr.mono hk_plus_small) rfl D_plus_small.m D_plus_small.fn.kp D_plus_small.b .nil pass0 (pa_cons (pv 1) (pa_cons (pv 2) pa_nil))))) pss_nil)
      (pss_cons (ps_set (i := 3) nd rfl (.inl rfl) (pe_lst pa_nil))
      (pss_cons (ps_set (i := 4) nd rfl (.inl rfl) (pe_callB call_len_seq (by rfl) b_len PySem.boot_len (pa_cons (pv 0) pa_nil)))
      (pss_cons (ps_set (i := 5) nd rfl (.inl rfl) (pe_callB call_len_seq (by rfl) b_len PySem.boot_len (pa_cons (pv 1) pa_nil)))
      (pss_cons (ps_while PassesOwn.never (PW.pt (pw_and (pt_cmpR op_gt (pv 4) pe_int (nomark _)) (pw_and1 (pt_cmpR op_gt (pv 5) pe_int (nomark _))))) (pss_one (ps_if (pt_cmpR op_lt (pe_call G_order (hr.mono hk_order) rfl D_order.m D_order.fn.kp D_order.b .nil pass0 (pa_cons (pe_ix ix_tup (pe_ix ix_tup (pv 0) (pe_op op_sub (pv 4) pe_int) (fun _ _ => rfl)) pe_int (fun _ _ => rfl)) (pa_cons (pe_ix ix_tup (pe_ix ix_tup (pv 1) (pe_op op_sub (pv 5) pe_int) (fun _ _ => rfl)) pe_int (fun _ _ => rfl)) pa_nil))) pe_int (nomark _)) (pss_cons (ps_aug (i := 4) nd rfl (.inl rfl) pe_int ip_sub)
      (pss_one (ps_expr (pe_bm PySem.F.plainAttrs_list PySem.F.slot_list_append PySem.F.type_list_append mt_append (pv 3) (pa_cons (pe_ix ix_tup (pv 0) (pv 4) (fun _ _ => rfl)) pa_nil))))) (pss_cons (ps_aug (i := 5) nd rfl (.inl rfl) pe_int ip_sub)
      (pss_one (ps_expr (pe_bm PySem.F.plainAttrs_list PySem.F.slot_list_append PySem.F.type_list_append mt_append (pv 3) (pa_cons (pe_ix ix_tup (pv 1) (pv 5) (fun _ _ => rfl)) pa_nil))))))))
      (pss_cons (ps_set (i := 6) nd rfl (.inl rfl) (pe_op op_catA (pe_slice sl_tupA (pv 0) po_none (po_some (pv 4))) (pe_slice sl_tupA (pv 1) po_none (po_some (pv 5)))))
      (pss_one (ps_ret (pe_call G_settled (hr.mono hk_settled) rfl D_settled.m D_settled.fn.kp D_settled.b .nil pass0 (pa_cons (pe_op op_cat (pv 3) (pe_callTy call_list_of (by rfl) b_list (by decide +kernel) (pa_cons (pe_revT (pv 6)) pa_nil))) (pa_cons (pe_callB call_len_seq (by rfl) b_len PySem.boot_len (pa_cons (pv 3) pa_nil)) pa_nil))))))))))))))
theorem okh_plus {f : Addr} {fd : FuncData} {k : Nat} (D : DefAt K mg "plus" s_plus ["first", "second"] f fd) {f_value_within : Addr} {fd_value_within : FuncData} {k_value_within : Nat} (D_value_within : DefAt K mg "value_within" s_value_within ["number", "bits"] f_value_within fd_value_within) (GH_value_within : L2H.FnH P w K mg base CX0 k_value_within f_value_within fd_value_within ["number", "bits"] (sp_value_within K 45)) (hk_value_within : k_value_within ≤ k) {f_plus_small : Addr} {fd_plus_small : FuncData} {k_plus_small : Nat} (D_plus_small : DefAt K mg "plus_small" s_plus_small ["number", "value"] f_plus_small fd_plus_small) (GH_plus_small : L2H.FnH P w K mg base CX0 k_plus_small f_plus_small fd_plus_small ["number", "value"] (sp_plus_small K)) (hk_plus_small : k_plus_small ≤ k) {f_order : Addr} {fd_order : FuncData} {k_order : Nat} (D_order : DefAt K mg "order" s_order ["first", "second"] f_order fd_order) (GH_order : L2H.FnH P w K mg base CX0 k_order f_order fd_order ["first", "second"] (sp_order K)) (hk_order : k_order ≤ k) {f_settled : Addr} {fd_settled : FuncData} {k_settled : Nat} (D_settled : DefAt K mg "settled" s_settled ["row", "many"] f_settled fd_settled) (GH_settled : L2H.FnH P w K mg base CX0 k_settled f_settled fd_settled ["row", "many"] (sp_settled K)) (hk_settled : k_settled ≤ k) (b_len : mg "len" = none) (b_list : mg "list" = none) {t_INTEGER_BITS : Tok} (m_INTEGER_BITS : mg "INTEGER_BITS" = some (.int 512 t_INTEGER_BITS)) : L2H.FnH P w K mg base CX0 (k + 1) f fd ["first", "second"] (sp_plus K) := by
  have nd := sc_plus.nd
  refine okHot D.fn sc_plus (fun vs H Q E h => spF2.len h) (fun cdv A outer s H vs Q E p hot hr h => ⟨t_plus K, ?_, pure_plus h⟩)
  exact (pss_cons (ps_set (i := 2) nd rfl (.inl rfl) (pe_callHot GH_value_within (hr.mono hk_value_within) (hotC_mk hot List.mem_cons_self) rfl D_value_within.m D_value_within.fn.kp D_value_within.b (pa_cons (pv 1) (pa_cons (pe_glob rfl m_INTEGER_BITS ⟨_, rfl⟩) pa_nil))))
      (pss_cons (ps_if (pt_cmpR op_notN (pv 2) pe_non (nomark _)) (pss_one (ps_ret (pe_callHot GH_plus_small (hr.mono hk_plus_small) (hotC_mk hot List.mem_cons_self) rfl D_plus_small.m D_plus_small.fn.kp D_plus_small.b (pa_cons (pv 0) (pa_cons (pv 2) pa_nil))))) pss_nil)
      (pss_cons (ps_set (i := 2) nd rfl (.inl rfl) (pe_callHot GH_value_within (hr.mono hk_value_within) (hotC_mk hot List.mem_cons_self) rfl D_value_within.m D_value_within.fn.kp D_value_within.b (pa_cons (pv 0) (pa_cons (pe_glob rfl m_INTEGER_BITS ⟨_, rfl⟩) pa_nil))))
      (pss_cons (ps_if (pt_cmpR op_notN (pv 2) pe_non (nomark _)) (pss_one (ps_ret (pe_callHot GH_plus_small (hr.mono hk_plus_small) (hotC_mk hot List.mem_cons_self) rfl D_plus_small.m D_plus_small.fn.kp D_plus_small.b (pa_cons (pv 1) (pa_cons (pv 2) pa_nil))))) pss_nil)
      (pss_cons (ps_set (i := 3) nd rfl (.inl rfl) (pe_lst pa_nil))
      (pss_cons (ps_set (i := 4) nd rfl (.inl rfl) (pe_callB call_len_seq (by rfl) b_len PySem.boot_len (pa_cons (pv 0) pa_nil)))
      (pss_cons (ps_set (i := 5) nd rfl (.inl rfl) (pe_callB call_len_seq (by rfl) b_len PySem.boot_len (pa_cons (pv 1) pa_nil)))
      (pss_cons (ps_while (passes_of rfl) (PW.pt (pw_and (pt_cmpR op_gt (pv 4) pe_int (nomark _)) (pw_and1 (pt_cmpR op_gt (pv 5) pe_int (nomark _))))) (pss_one (ps_if (pt_cmpR op_lt (pe_callHot GH_order (hr.mono hk_order) (hotC_mk hot List.mem_cons_self) rfl D_order.m D_order.fn.kp D_order.b (pa_cons (pe_ix ix_tup (pe_ix ix_tup (pv 0) (pe_op op_sub (pv 4) pe_int) (fun _ _ => rfl)) pe_int (fun _ _ => rfl)) (pa_cons (pe_ix ix_tup (pe_ix ix_tup (pv 1) (pe_op op_sub (pv 5) pe_int) (fun _ _ => rfl)) pe_int (fun _ _ => rfl)) pa_nil))) pe_int (nomark _)) (pss_cons (ps_aug (i := 4) nd rfl (.inl rfl) pe_int ip_sub)
      (pss_one (ps_expr (pe_bm PySem.F.plainAttrs_list PySem.F.slot_list_append PySem.F.type_list_append mt_append (pv 3) (pa_cons (pe_ix ix_tup (pv 0) (pv 4) (fun _ _ => rfl)) pa_nil))))) (pss_cons (ps_aug (i := 5) nd rfl (.inl rfl) pe_int ip_sub)
      (pss_one (ps_expr (pe_bm PySem.F.plainAttrs_list PySem.F.slot_list_append PySem.F.type_list_append mt_append (pv 3) (pa_cons (pe_ix ix_tup (pv 1) (pv 5) (fun _ _ => rfl)) pa_nil))))))))
      (pss_cons (ps_set (i := 6) nd rfl (.inl rfl) (pe_op op_catA (pe_slice sl_tupA (pv 0) po_none (po_some (pv 4))) (pe_slice sl_tupA (pv 1) po_none (po_some (pv 5)))))
      (pss_one (ps_ret (pe_callHot GH_settled (hr.mono hk_settled) (hotC_mk hot List.mem_cons_self) rfl D_settled.m D_settled.fn.kp D_settled.b (pa_cons (pe_op op_cat (pv 3) (pe_callTy call_list_of (by rfl) b_list (by decide +kernel) (pa_cons (pe_revT (pv 6)) pa_nil))) (pa_cons (pe_callB call_len_seq (by rfl) b_len PySem.boot_len (pa_cons (pv 3) pa_nil)) pa_nil))))))))))))))
theorem ok_index_in {f : Addr} {fd : FuncData} {k : Nat} (D : DefAt K mg "index_in" s_index_in ["row", "exponent"] f fd) {f_order : Addr} {fd_order : FuncData} {k_order : Nat} (D_order : DefAt K mg "order" s_order ["first", "second"] f_order fd_order) (G_order : FnOk P w K mg base CX0 k_order f_order fd_order ["first", "second"] (sp_order K)) (hk_order : k_order ≤ k) (b_len : mg "len" = none) : FnOk P w K mg base CX0 (k + 1) f fd ["row", "exponent"] (sp_index_in K) := by
  have nd := sc_index_in.nd
  refine D.fn.ok sc_index_in (fun vs H Q E h => spF2.len h) (fun cdv A outer s H vs Q E hr h => ⟨t_index_in K, ?_, pure_index_in h⟩)
  exact (pss_cons (ps_set (i := 2) nd rfl (.inl rfl) pe_int)
      (pss_cons (ps_set (i := 3) nd rfl (.inl rfl) (pe_callB call_len_seq (by rfl) b_len PySem.boot_len (pa_cons (pv 0) pa_nil)))
      (pss_cons (ps_while PassesOwn.never (pt_cmpR op_lt (pv 2) (pv 3) (nomark _)) (pss_cons (ps_set (i := 4) nd rfl (.inl rfl) (pe_op op_fdiv (pe_op op_add (pv 2) (pv 3)) pe_int))
      (pss_one (ps_if (pt_cmpR op_lt (pe_call G_order (hr.mono hk_order) rfl D_order.m D_order.fn.kp D_order.b .nil pass0 (pa_cons (pe_ix ix_tup (pe_ix ix_list (pv 0) (pv 4) (fun _ _ => rfl)) pe_int (fun _ _ => rfl)) (pa_cons (pv 1) pa_nil))) pe_int (nomark _)) (pss_one (ps_set (i := 2) nd rfl (.inl rfl) (pe_op op_add (pv 4) pe_int))) (pss_one (ps_set (i := 3) nd rfl (.inl rfl) (pv 4)))))))
      (pss_one (ps_ret (pv 2))))))
theorem ok_bare_sum {f : Addr} {fd : FuncData} {k : Nat} (D : DefAt K mg "bare_sum" s_bare_sum ["terms"] f fd) {f_value_within : Addr} {fd_value_within : FuncData} {k_value_within : Nat} (D_value_within : DefAt K mg "value_within" s_value_within ["number", "bits"] f_value_within fd_value_within) (G_value_within : FnOk P w K mg base CX0 k_value_within f_value_within fd_value_within ["number", "bits"] (sp_value_within K 45)) (hk_value_within : k_value_within ≤ k) {f_index_in : Addr} {fd_index_in : FuncData} {k_index_in : Nat} (D_index_in : DefAt K mg "index_in" s_index_in ["row", "exponent"] f_index_in fd_index_in) (G_index_in : FnOk P w K mg base CX0 k_index_in f_index_in fd_index_in ["row", "exponent"] (sp_index_in K)) (hk_index_in : k_index_in ≤ k) {f_plus_small : Addr} {fd_plus_small : FuncData} {k_plus_small : Nat} (D_plus_small : DefAt K mg "plus_small" s_plus_small ["number", "value"] f_plus_small fd_plus_small) (G_plus_small : FnOk P w K mg base CX0 k_plus_small f_plus_small fd_plus_small ["number", "value"] (sp_plus_small K)) (hk_plus_small : k_plus_small ≤ k) {f_settled : Addr} {fd_settled : FuncData} {k_settled : Nat} (D_settled : DefAt K mg "settled" s_settled ["row", "many"] f_settled fd_settled) (G_settled : FnOk P w K mg base CX0 k_settled f_settled fd_settled ["row", "many"] (sp_settled K)) (hk_settled : k_settled ≤ k) (b_len : mg "len" = none) {t_PLACE_BITS : Tok} (m_PLACE_BITS : mg "PLACE_BITS" = some (.int 9 t_PLACE_BITS)) : FnOk P w K mg base CX0 (k + 1) f fd ["terms"] (sp_bare_sum K) := by
  have nd := sc_bare_sum.nd
  refine D.fn.ok sc_bare_sum (fun vs H Q E h => spF1.len h) (fun cdv A outer s H vs Q E hr h => ⟨t_bare_sum K, ?_, pure_bare_sum h⟩)
  exact (pss_cons (ps_set (i := 1) nd rfl (.inl rfl) pe_int)
      (pss_cons (ps_set (i := 2) nd rfl (.inl rfl) (pe_lst pa_nil))
      (pss_cons (ps_for PassesOwn.never rfl (pi_ei (pv 0)) (pg_tup rfl (pgs_cons (pg_name (i := 3) nd rfl (.inl rfl)) (pgs_cons (pg_name (i := 4) nd rfl (.inl rfl)) pgs_nil))) (pss_cons (ps_set (i := 5) nd rfl (.inl rfl) (pe_call G_value_within (hr.mono hk_value_within) rfl D_value_within.m D_value_within.fn.kp D_value_within.b .nil pass0 (pa_cons (pv 4) (pa_cons (pe_glob rfl m_PLACE_BITS ⟨_, rfl⟩) pa_nil))))
      (pss_cons (ps_if (pt_cmpR op_notN (pv 5) pe_non (nomark _)) (pss_cons (ps_aug (i := 1) nd rfl (.inl rfl) (pe_op op_shl (pv 3) (pv 5)) ip_add)
      (pss_one ps_continue)) pss_nil)
      (pss_cons (ps_set (i := 6) nd rfl (.inl rfl) (pe_call G_index_in (hr.mono hk_index_in) rfl D_index_in.m D_index_in.fn.kp D_index_in.b .nil pass0 (pa_cons (pv 2) (pa_cons (pv 4) pa_nil))))
      (pss_one (ps_if (PW.pt (pw_and (pt_cmpR op_lt (pv 6) (pe_callB call_len_seq (by rfl) b_len PySem.boot_len (pa_cons (pv 2) pa_nil)) (nomark _)) (pw_and1 (pt_cmpR (op_eqN (hu150 hr)) (pe_ix ix_tup (pe_ix ix_list (pv 2) (pv 6) (fun _ _ => rfl)) pe_int (fun _ _ => rfl)) (pv 4) (nomark _))))) (pss_one (ps_asg (pe_tup (pa_cons (pe_op op_add (pe_ix ix_tup (pe_ix ix_list (pv 2) (pv 6) (fun _ _ => rfl)) pe_int (fun _ _ => rfl)) (pv 3)) (pa_cons (pv 4) pa_nil))) (pg_sub (pv 2) (pv 6) set_list))) (pss_one (ps_expr (pe_bm PySem.F.plainAttrs_list PySem.F.slot_list_insert PySem.F.type_list_insert mt_insert (pv 2) (pa_cons (pv 6) (pa_cons (pe_tup (pa_cons (pv 3) (pa_cons (pv 4) pa_nil))) pa_nil)))))))))))
      (pss_one (ps_ret (pe_call G_plus_small (hr.mono hk_plus_small) rfl D_plus_small.m D_plus_small.fn.kp D_plus_small.b .nil pass0 (pa_cons (pe_call G_settled (hr.mono hk_settled) rfl D_settled.m D_settled.fn.kp D_settled.b .nil pass0 (pa_cons (pv 2) (pa_cons (pe_callB call_len_seq (by rfl) b_len PySem.boot_len (pa_cons (pv 2) pa_nil)) pa_nil))) (pa_cons (pv 1) pa_nil))))))))
theorem ok_bare_shift {f : Addr} {fd : FuncData} {k : Nat} (D : DefAt K mg "bare_shift" s_bare_shift ["terms", "places"] f fd) {f_value_within : Addr} {fd_value_within : FuncData} {k_value_within : Nat} (D_value_within : DefAt K mg "value_within" s_value_within ["number", "bits"] f_value_within fd_value_within) (G_value_within : FnOk P w K mg base CX0 k_value_within f_value_within fd_value_within ["number", "bits"] (sp_value_within K 45)) (hk_value_within : k_value_within ≤ k) {f_plus_small : Addr} {fd_plus_small : FuncData} {k_plus_small : Nat} (D_plus_small : DefAt K mg "plus_small" s_plus_small ["number", "value"] f_plus_small fd_plus_small) (G_plus_small : FnOk P w K mg base CX0 k_plus_small f_plus_small fd_plus_small ["number", "value"] (sp_plus_small K)) (hk_plus_small : k_plus_small ≤ k) {f_plus : Addr} {fd_plus : FuncData} {k_plus : Nat} (D_plus : DefAt K mg "plus" s_plus ["first", "second"] f_plus fd_plus) (G_plus : FnOk P w K mg base CX0 k_plus f_plus fd_plus ["first", "second"] (sp_plus K)) (hk_plus : k_plus ≤ k) (b_tuple : mg "tuple" = none) {t_INTEGER_BITS : Tok} (m_INTEGER_BITS : mg "INTEGER_BITS" = some (.int 512 t_INTEGER_BITS)) : FnOk P w K mg base CX0 (k + 1) f fd ["terms", "places"] (sp_bare_shift K) := by
  have nd := sc_bare_shift.nd
  refine D.fn.ok sc_bare_shift (fun vs H Q E h => spF2.len h) (fun cdv A outer s H vs Q E hr h => ⟨t_bare_shift K, ?_, pure_bare_shift h⟩)
  exact (pss_cons (ps_set (i := 2) nd rfl (.inr rfl) (pe_call G_value_within (hr.mono hk_value_within) rfl D_value_within.m D_value_within.fn.kp D_value_within.b .nil pass0 (pa_cons (pv 1) (pa_cons (pe_glob rfl m_INTEGER_BITS ⟨_, rfl⟩) pa_nil))))
      (pss_cons (ps_if (pt_cmpR op_notN (pv 2) pe_non (nomark _)) (pss_one (ps_ret (pe_tupleOf rfl b_tuple (pe_lc (own := [("sign", 3), ("exponent", 4)]) (g := (gTup K 2 (gCons (gName 3) (gCons (gName 4) gNil)))) (tt := tYes) (te := (tTup (tCons (tVar 3) (tCons (tCall (sp_plus_small K) [] E0 (tCons (tVar 4) (tCons (tVar 2) tNil))) tNil)))) rfl nd (pi_tup (pv 0)) (blkOk_by (own := [("sign", 3), ("exponent", 4)]) (N := N_bare_shift) (sc := defScope s_bare_shift) (by decide +kernel)) (fun _ _ _ _ _ => (pg_tup rfl (pgs_cons (pg_name (i := 3) nd rfl (.inl rfl)) (pgs_cons (pg_name (i := 4) nd rfl (.inl rfl)) pgs_nil)))) (fun _ _ _ _ _ => pts_nil) (fun _ _ _ _ _ => (pe_tup (pa_cons (pv 3) (pa_cons (pe_call G_plus_small (hr.mono hk_plus_small) rfl D_plus_small.m D_plus_small.fn.kp D_plus_small.b .nil pass0 (pa_cons (pv 4) (pa_cons (pv 2) pa_nil))) pa_nil)))))))) pss_nil)
      (pss_one (ps_ret (pe_tupleOf rfl b_tuple (pe_lc (own := [("sign", 3), ("exponent", 4)]) (g := (gTup K 2 (gCons (gName 3) (gCons (gName 4) gNil)))) (tt := tYes) (te := (tTup (tCons (tVar 3) (tCons (tCall (sp_plus K) [] E0 (tCons (tVar 4) (tCons (tVar 1) tNil))) tNil)))) rfl nd (pi_tup (pv 0)) (blkOk_by (own := [("sign", 3), ("exponent", 4)]) (N := N_bare_shift) (sc := defScope s_bare_shift) (by decide +kernel)) (fun _ _ _ _ _ => (pg_tup rfl (pgs_cons (pg_name (i := 3) nd rfl (.inl rfl)) (pgs_cons (pg_name (i := 4) nd rfl (.inl rfl)) pgs_nil)))) (fun _ _ _ _ _ => pts_nil) (fun _ _ _ _ _ => (pe_tup (pa_cons (pv 3) (pa_cons (pe_call G_plus (hr.mono hk_plus) rfl D_plus.m D_plus.fn.kp D_plus.b .nil pass0 (pa_cons (pv 4) (pa_cons (pv 1) pa_nil))) pa_nil))))))))))
theorem ok_levels {f : Addr} {fd : FuncData} {k : Nat} (D : DefAt K mg "levels" s_levels ["number"] f fd) : FnOk P w K mg base CX0 (k + 1) f fd ["number"] (sp_levels K) := by
  have nd := sc_levels.nd
  refine D.fn.ok sc_levels (fun vs H Q E h => spF1.len h) (fun cdv A outer s H vs Q E hr h => ⟨t_levels K, ?_, pure_levels h⟩)
  exact (pss_cons (ps_set (i := 1) nd rfl (.inl rfl) (pe_lst pa_nil))
      (pss_cons (ps_set (i := 2) nd rfl (.inl rfl) (pe_lst (pa_cons (pv 0) pa_nil)))
      (pss_cons (ps_while PassesOwn.never (pt_truth (pv 2) (by intro _; rfl)) (pss_cons (ps_expr (pe_bm PySem.F.plainAttrs_list PySem.F.slot_list_append PySem.F.type_list_append mt_append (pv 1) (pa_cons (pv 2) pa_nil)))
      (pss_one (ps_setLc2 (i := 2) (own := [("item", 3), ("_", 4), ("exponent", 5)]) (g := (gName 3)) (tt := tYes) (g1 := (gTup K 2 (gCons (gName 4) (gCons (gName 5) gNil)))) (tt1 := tYes) (te := (tVar 5)) (vs1 := [4, 5]) rfl nd rfl rfl (sw_true rfl rfl rfl (by decide +kernel)) (pi_list (pv 2)) (blkOk_by (own := [("item", 3), ("_", 4), ("exponent", 5)]) (N := N_levels) (sc := defScope s_levels) (by decide +kernel)) (by decide) (fun _ _ _ _ _ => (pg_name (i := 3) nd rfl (.inl rfl))) (fun _ _ _ _ _ => pts_nil) (fun _ _ _ _ _ => (pi_tup (pv 3))) (fun _ _ _ _ _ => (pg_tup rfl (pgs_cons (pg_name (i := 4) nd rfl (.inl rfl)) (pgs_cons (pg_name (i := 5) nd rfl (.inl rfl)) pgs_nil)))) (fun _ _ _ _ _ => pts_nil) (fun _ _ _ _ _ => (pv 5))))))
      (pss_one (ps_ret (pv 1))))))
theorem okh_levels {f : Addr} {fd : FuncData} {k : Nat} (D : DefAt K mg "levels" s_levels ["number"] f fd) : L2H.FnH P w K mg base CX0 (k + 1) f fd ["number"] (sp_levels K) := by
  have nd := sc_levels.nd
  refine okHot D.fn sc_levels (fun vs H Q E h => spF1.len h) (fun cdv A outer s H vs Q E p hot hr h => ⟨t_levels K, ?_, pure_levels h⟩)
  exact (pss_cons (ps_set (i := 1) nd rfl (.inl rfl) (pe_lst pa_nil))
      (pss_cons (ps_set (i := 2) nd rfl (.inl rfl) (pe_lst (pa_cons (pv 0) pa_nil)))
      (pss_cons (ps_while (passes_of rfl) (pt_truth (pv 2) (by intro _; rfl)) (pss_cons (ps_expr (pe_bm PySem.F.plainAttrs_list PySem.F.slot_list_append PySem.F.type_list_append mt_append (pv 1) (pa_cons (pv 2) pa_nil)))
      (pss_one (ps_setLc2H (i := 2) (own := [("item", 3), ("_", 4), ("exponent", 5)]) (g := (gName 3)) (tt := tYes) (g1 := (gTup K 2 (gCons (gName 4) (gCons (gName 5) gNil)))) (tt1 := tYes) (te := (tVar 5)) (vs1 := [4, 5]) (hotC_mk hot List.mem_cons_self) nd rfl rfl (sw_true rfl rfl rfl (by decide +kernel)) (pi_listH (pv 2)) (blkOk_by (own := [("item", 3), ("_", 4), ("exponent", 5)]) (N := N_levels) (sc := defScope s_levels) (by decide +kernel)) (by decide) (fun _ _ _ _ _ => (pg_name (i := 3) nd rfl (.inl rfl))) (fun _ _ _ _ _ => pts_nil) (fun _ _ _ _ _ => (pi_tupH (pv 3))) (fun _ _ _ _ _ => (pg_tupH (hotC_mk hot List.mem_cons_self) (pgs_cons (pg_name (i := 4) nd rfl (.inl rfl)) (pgs_cons (pg_name (i := 5) nd rfl (.inl rfl)) pgs_nil)))) (fun _ _ _ _ _ => pts_nil) (fun _ _ _ _ _ => (pv 5))))))
      (pss_one (ps_ret (pv 1))))))
theorem ok_is_allowed {f : Addr} {fd : FuncData} {k : Nat} (D : DefAt K mg "is_allowed" s_is_allowed ["number"] f fd) {f_levels : Addr} {fd_levels : FuncData} {k_levels : Nat} (D_levels : DefAt K mg "levels" s_levels ["number"] f_levels fd_levels) (G_levels : FnOk P w K mg base CX0 k_levels f_levels fd_levels ["number"] (sp_levels K)) (hk_levels : k_levels ≤ k) (b_sum : mg "sum" = none) (b_len : mg "len" = none) {t_MAX_SIZE : Tok} (m_MAX_SIZE : mg "MAX_SIZE" = some (.int 300 t_MAX_SIZE)) {t_MAX_HEIGHT : Tok} (m_MAX_HEIGHT : mg "MAX_HEIGHT" = some (.int 40 t_MAX_HEIGHT)) : FnOk P w K mg base CX0 (k + 1) f fd ["number"] (sp_is_allowed K) := by
  have nd := sc_is_allowed.nd
  refine D.fn.ok sc_is_allowed (fun vs H Q E h => spF1.len h) (fun cdv A outer s H vs Q E hr h => ⟨t_is_allowed K, ?_, pure_is_allowed h⟩)
  exact (pss_cons (ps_set (i := 1) nd rfl (.inl rfl) (pe_call G_levels (hr.mono hk_levels) rfl D_levels.m D_levels.fn.kp D_levels.b .nil pass0 (pa_cons (pv 0) pa_nil)))
      (pss_one (ps_ret (pe_and (pe_cmpR op_le (pe_callB (cr_sum rfl) (by rfl) b_sum (by decide +kernel) (pa_cons (pe_lc (own := [("row", 2)]) (g := (gName 2)) (tt := tYes) (te := (tCB (rLenS K) (tCons (tVar 2) tNil))) rfl nd (pi_list (pv 1)) (blkOk_by (own := [("row", 2)]) (N := N_is_allowed) (sc := defScope s_is_allowed) (by decide +kernel)) (fun _ _ _ _ _ => (pg_name (i := 2) nd rfl (.inl rfl))) (fun _ _ _ _ _ => pts_nil) (fun _ _ _ _ _ => (pe_callB call_len_seq (by rfl) b_len PySem.boot_len (pa_cons (pv 2) pa_nil)))) pa_nil)) (pe_glob rfl m_MAX_SIZE ⟨_, rfl⟩) (nomark _)) (pe_one (pe_cmpR op_le (pe_callB call_len_seq (by rfl) b_len PySem.boot_len (pa_cons (pv 1) pa_nil)) (pe_op op_add (pe_glob rfl m_MAX_HEIGHT ⟨_, rfl⟩) pe_int) (nomark _)))))))
theorem okh_is_allowed {f : Addr} {fd : FuncData} {k : Nat} (D : DefAt K mg "is_allowed" s_is_allowed ["number"] f fd) {f_levels : Addr} {fd_levels : FuncData} {k_levels : Nat} (D_levels : DefAt K mg "levels" s_levels ["number"] f_levels fd_levels) (GH_levels : L2H.FnH P w K mg base CX0 k_levels f_levels fd_levels ["number"] (sp_levels K)) (hk_levels : k_levels ≤ k) (b_sum : mg "sum" = none) (b_len : mg "len" = none) {t_MAX_SIZE : Tok} (m_MAX_SIZE : mg "MAX_SIZE" = some (.int 300 t_MAX_SIZE)) {t_MAX_HEIGHT : Tok} (m_MAX_HEIGHT : mg "MAX_HEIGHT" = some (.int 40 t_MAX_HEIGHT)) : L2H.FnH P w K mg base CX0 (k + 1) f fd ["number"] (sp_is_allowed K) := by
  have nd := sc_is_allowed.nd
  refine okHot D.fn sc_is_allowed (fun vs H Q E h => spF1.len h) (fun cdv A outer s H vs Q E p hot hr h => ⟨t_is_allowed K, ?_, pure_is_allowed h⟩)
  exact (pss_cons (ps_set (i := 1) nd rfl (.inl rfl) (pe_callHot GH_levels (hr.mono hk_levels) (hotC_mk hot List.mem_cons_self) rfl D_levels.m D_levels.fn.kp D_levels.b (pa_cons (pv 0) pa_nil)))
      (pss_one (ps_ret (pe_and (pe_cmpR op_le (pe_callB (cr_sumH (hotC_mk hot List.mem_cons_self)) (by rfl) b_sum (by decide +kernel) (pa_cons (pe_lcH (own := [("row", 2)]) (g := (gName 2)) (tt := tYes) (te := (tCB (rLenS K) (tCons (tVar 2) tNil))) (hotC_mk hot List.mem_cons_self) nd (pi_listH (pv 1)) (blkOk_by (own := [("row", 2)]) (N := N_is_allowed) (sc := defScope s_is_allowed) (by decide +kernel)) (fun _ _ _ _ _ => (pg_name (i := 2) nd rfl (.inl rfl))) (fun _ _ _ _ _ => pts_nil) (fun _ _ _ _ _ => (pe_callB call_len_seq (by rfl) b_len PySem.boot_len (pa_cons (pv 2) pa_nil)))) pa_nil)) (pe_glob rfl m_MAX_SIZE ⟨_, rfl⟩) (nomark _)) (pe_one (pe_cmpR op_le (pe_callB call_len_seq (by rfl) b_len PySem.boot_len (pa_cons (pv 1) pa_nil)) (pe_op op_add (pe_glob rfl m_MAX_HEIGHT ⟨_, rfl⟩) pe_int) (nomark _)))))))
theorem ok_allowed {f : Addr} {fd : FuncData} {k : Nat} (D : DefAt K mg "allowed" s_allowed ["number"] f fd) {a_TooLarge : Addr} (C_TooLarge : ClsAt K mg "TooLarge" a_TooLarge) (X_TooLarge : ErrC P w K mg base "TooLarge" a_TooLarge) (hk3 : 3 ≤ k) {f_is_allowed : Addr} {fd_is_allowed : FuncData} {k_is_allowed : Nat} (D_is_allowed : DefAt K mg "is_allowed" s_is_allowed ["number"] f_is_allowed fd_is_allowed) (G_is_allowed : FnOk P w K mg base CX0 k_is_allowed f_is_allowed fd_is_allowed ["number"] (sp_is_allowed K)) (hk_is_allowed : k_is_allowed ≤ k) : FnOk P w K mg base (L2N.CX P w) (k + 1) f fd ["number"] (sp_allowed K a_TooLarge) := by
  have nd := sc_allowed.nd
  refine okXN D.fn sc_allowed (fun vs H Q E h => spX1.len h) (fun cdv A outer s H vs Q E hr h => ⟨t_allowed K a_TooLarge E, ?_, pure_allowed h⟩)
  exact (pss_cons (ps_if (pt_not (pt_val (pe_call G_is_allowed (hr.mono hk_is_allowed) rfl D_is_allowed.m D_is_allowed.fn.kp D_is_allowed.b .nil pass0 (pa_cons (pv 0) pa_nil)))) (pss_one (ps_errN rfl (L2N.takes_of rfl rfl rfl rfl) rfl X_TooLarge (hr.mono hk3) (by rfl))) pss_nil)
      (pss_one (ps_ret (pv 0))))
theorem okh_allowed {f : Addr} {fd : FuncData} {k : Nat} (D : DefAt K mg "allowed" s_allowed ["number"] f fd) {a_TooLarge : Addr} (C_TooLarge : ClsAt K mg "TooLarge" a_TooLarge) (X_TooLarge : ErrC P w K mg base "TooLarge" a_TooLarge) {f_is_allowed : Addr} {fd_is_allowed : FuncData} {k_is_allowed : Nat} (D_is_allowed : DefAt K mg "is_allowed" s_is_allowed ["number"] f_is_allowed fd_is_allowed) (GH_is_allowed : L2H.FnH P w K mg base CX0 k_is_allowed f_is_allowed fd_is_allowed ["number"] (sp_is_allowed K)) (hk_is_allowed : k_is_allowed ≤ k) : L2H.FnH P w K mg base CX0 (k + 1) f fd ["number"] (spH (sp_allowed K a_TooLarge)) := by
  have nd := sc_allowed.nd
  refine okHot D.fn sc_allowed (fun vs H Q E h => spX1.len h) (fun cdv A outer s H vs Q E p hot hr h => ⟨t_allowed K a_TooLarge E0, ?_, pure_allowed h⟩)
  exact (pss_cons (ps_if (pt_not (pt_val (pe_callHot GH_is_allowed (hr.mono hk_is_allowed) (hotC_mk hot List.mem_cons_self) rfl D_is_allowed.m D_is_allowed.fn.kp D_is_allowed.b (pa_cons (pv 0) pa_nil)))) (pss_one (ps_raise0 X_TooLarge.nm)) pss_nil)
      (pss_one (ps_ret (pv 0))))
theorem ok_sign_of {f : Addr} {fd : FuncData} {k : Nat} (D : DefAt K mg "sign_of" s_sign_of ["number"] f fd) : FnOk P w K mg base CX0 (k + 1) f fd ["number"] (sp_sign_of K) := by
  have nd := sc_sign_of.nd
  refine D.fn.ok sc_sign_of (fun vs H Q E h => spF1.len h) (fun cdv A outer s H vs Q E hr h => ⟨t_sign_of K, ?_, pure_sign_of h⟩)
  exact (pss_one (ps_ret (pe_ifExp (pt_truth (pv 0) (by intro _; rfl)) (pe_ix ix_tup (pe_ix ix_tup (pv 0) pe_int (fun _ _ => rfl)) pe_int (fun _ _ => rfl)) pe_int)))
theorem ok_compare {f : Addr} {fd : FuncData} {k : Nat} (D : DefAt K mg "compare" s_compare ["first", "second"] f fd) {f_order : Addr} {fd_order : FuncData} {k_order : Nat} (D_order : DefAt K mg "order" s_order ["first", "second"] f_order fd_order) (G_order : FnOk P w K mg base CX0 k_order f_order fd_order ["first", "second"] (sp_order K)) (hk_order : k_order ≤ k) : FnOk P w K mg base CX0 (k + 1) f fd ["first", "second"] (sp_compare K) := by
  have nd := sc_compare.nd
  refine D.fn.ok sc_compare (fun vs H Q E h => spF2.len h) (fun cdv A outer s H vs Q E hr h => ⟨t_compare K, ?_, pure_compare h⟩)
  exact (pss_one (ps_ret (pe_call G_order (hr.mono hk_order) rfl D_order.m D_order.fn.kp D_order.b .nil pass0 (pa_cons (pv 0) (pa_cons (pv 1) pa_nil)))))
theorem ok_are_apart {f : Addr} {fd : FuncData} {k : Nat} (D : DefAt K mg "are_apart" s_are_apart ["upper", "lower"] f fd) {f_compare : Addr} {fd_compare : FuncData} {k_compare : Nat} (D_compare : DefAt K mg "compare" s_compare ["first", "second"] f_compare fd_compare) (G_compare : FnOk P w K mg base CX0 k_compare f_compare fd_compare ["first", "second"] (sp_compare K)) (hk_compare : k_compare ≤ k) {f_plus_small : Addr} {fd_plus_small : FuncData} {k_plus_small : Nat} (D_plus_small : DefAt K mg "plus_small" s_plus_small ["number", "value"] f_plus_small fd_plus_small) (G_plus_small : FnOk P w K mg base CX0 k_plus_small f_plus_small fd_plus_small ["number", "value"] (sp_plus_small K)) (hk_plus_small : k_plus_small ≤ k) : FnOk P w K mg base CX0 (k + 1) f fd ["upper", "lower"] (sp_are_apart K) := by
  have nd := sc_are_apart.nd
  refine D.fn.ok sc_are_apart (fun vs H Q E h => spF2.len h) (fun cdv A outer s H vs Q E hr h => ⟨t_are_apart K, ?_, pure_are_apart h⟩)
  exact (pss_one (ps_ret (pe_and (pe_cmpR op_gt (pe_call G_compare (hr.mono hk_compare) rfl D_compare.m D_compare.fn.kp D_compare.b .nil pass0 (pa_cons (pv 0) (pa_cons (pv 1) pa_nil))) pe_int (nomark _)) (pe_one (pe_cmpR (op_neN (hu150 hr)) (pv 0) (pe_call G_plus_small (hr.mono hk_plus_small) rfl D_plus_small.m D_plus_small.fn.kp D_plus_small.b .nil pass0 (pa_cons (pv 1) (pa_cons pe_int pa_nil))) (nomark _))))))
theorem ok_has_form {f : Addr} {fd : FuncData} {k : Nat} {d : Nat} (D : DefAt K mg "has_form" s_has_form ["number"] f fd) {f_sign_of : Addr} {fd_sign_of : FuncData} {k_sign_of : Nat} (D_sign_of : DefAt K mg "sign_of" s_sign_of ["number"] f_sign_of fd_sign_of) (G_sign_of : FnOk P w K mg base CX0 k_sign_of f_sign_of fd_sign_of ["number"] (sp_sign_of K)) (hk_sign_of : k_sign_of ≤ k) {f_are_apart : Addr} {fd_are_apart : FuncData} {k_are_apart : Nat} (D_are_apart : DefAt K mg "are_apart" s_are_apart ["upper", "lower"] f_are_apart fd_are_apart) (G_are_apart : FnOk P w K mg base CX0 k_are_apart f_are_apart fd_are_apart ["upper", "lower"] (sp_are_apart K)) (hk_are_apart : k_are_apart ≤ k) (b_all : mg "all" = none) (b_zip : mg "zip" = none) (G_has_form : FnOk P w K mg base CX0 k f fd ["number"] (sp_has_form K d)) : FnOk P w K mg base CX0 (k + 1) f fd ["number"] (sp_has_form K (d + 1)) := by
  have D_has_form := D
  have nd := sc_has_form.nd
  refine D.fn.ok sc_has_form (fun vs H Q E h => spF1.len h) (fun cdv A outer s H vs Q E hr h => ⟨t_has_form K d, ?_, pure_has_form h⟩)
  exact (pss_cons (ps_for PassesOwn.never rfl (pi_tup (pv 0)) (pg_tup rfl (pgs_cons (pg_name (i := 2) nd rfl (.inl rfl)) (pgs_cons (pg_name (i := 3) nd rfl (.inl rfl)) pgs_nil))) (pss_one (ps_if (PW.pt (pw_or (pt_cmpR op_notIn_seq (pv 2) (pe_tup (pa_cons pe_int (pa_cons (pe_un un_neg pe_int) pa_nil))) (by rfl)) (pw_or (pt_not (pt_val (pe_call G_has_form hr rfl D_has_form.m D_has_form.fn.kp D_has_form.b .nil pass0 (pa_cons (pv 3) pa_nil)))) (pw_or1 (pt_cmpR op_lt (pe_call G_sign_of (hr.mono hk_sign_of) rfl D_sign_of.m D_sign_of.fn.kp D_sign_of.b .nil pass0 (pa_cons (pv 3) pa_nil)) pe_int (nomark _)))))) (pss_one (ps_ret pe_bl)) pss_nil)))
      (pss_cons (ps_setLc (i := 1) (own := [("_", 4), ("exponent", 3)]) (g := (gTup K 2 (gCons (gName 4) (gCons (gName 3) gNil)))) (tt := tYes) (te := (tVar 3)) rfl nd rfl rfl (sw_true rfl rfl rfl (by decide +kernel)) (pi_tup (pv 0)) (blkOk_by (own := [("_", 4), ("exponent", 3)]) (N := N_has_form) (sc := defScope s_has_form) (by decide +kernel)) (fun _ _ _ _ _ => (pg_tup rfl (pgs_cons (pg_name (i := 4) nd rfl (.inl rfl)) (pgs_cons (pg_name (i := 3) nd rfl (.inl rfl)) pgs_nil)))) (fun _ _ _ _ _ => pts_nil) (fun _ _ _ _ _ => (pv 3)))
      (pss_one (ps_ret (pe_callB (cr_all rfl) (by rfl) b_all (by decide +kernel) (pa_cons (pe_lc (own := [("upper", 5), ("lower", 6)]) (g := (gTup K 2 (gCons (gName 5) (gCons (gName 6) gNil)))) (tt := tYes) (te := (tCall (sp_are_apart K) [] E0 (tCons (tVar 5) (tCons (tVar 6) tNil)))) rfl nd (pi_zip (by rfl) b_zip (pa_cons (pv 1) (pa_cons (pe_slice sl_list (pv 1) (po_some pe_int) po_none) pa_nil))) (blkOk_by (own := [("upper", 5), ("lower", 6)]) (N := N_has_form) (sc := defScope s_has_form) (by decide +kernel)) (fun _ _ _ _ _ => (pg_tup rfl (pgs_cons (pg_name (i := 5) nd rfl (.inl rfl)) (pgs_cons (pg_name (i := 6) nd rfl (.inl rfl)) pgs_nil)))) (fun _ _ _ _ _ => pts_nil) (fun _ _ _ _ _ => (pe_call G_are_apart (hr.mono hk_are_apart) rfl D_are_apart.m D_are_apart.fn.kp D_are_apart.b .nil pass0 (pa_cons (pv 5) (pa_cons (pv 6) pa_nil))))) pa_nil))))))
theorem ok_check_number {f : Addr} {fd : FuncData} {k : Nat} (D : DefAt K mg "check_number" s_check_number ["number"] f fd) {a_NotAllowed : Addr} (C_NotAllowed : ClsAt K mg "NotAllowed" a_NotAllowed) (X_NotAllowed : ErrC P w K mg base "NotAllowed" a_NotAllowed) (hk3 : 3 ≤ k) {f_is_allowed : Addr} {fd_is_allowed : FuncData} {k_is_allowed : Nat} (D_is_allowed : DefAt K mg "is_allowed" s_is_allowed ["number"] f_is_allowed fd_is_allowed) (G_is_allowed : FnOk P w K mg base CX0 k_is_allowed f_is_allowed fd_is_allowed ["number"] (sp_is_allowed K)) (hk_is_allowed : k_is_allowed ≤ k) {f_has_form : Addr} {fd_has_form : FuncData} {k_has_form : Nat} (D_has_form : DefAt K mg "has_form" s_has_form ["number"] f_has_form fd_has_form) (G_has_form : FnOk P w K mg base CX0 k_has_form f_has_form fd_has_form ["number"] (sp_has_form K 45)) (hk_has_form : k_has_form ≤ k) : FnOk P w K mg base (L2N.CX P w) (k + 1) f fd ["number"] (sp_check_number K a_NotAllowed) := by
  have nd := sc_check_number.nd
  refine okXN D.fn sc_check_number (fun vs H Q E h => spX1.len h) (fun cdv A outer s H vs Q E hr h => ⟨t_check_number K a_NotAllowed E, ?_, pure_check_number h⟩)
  exact (pss_one (ps_if (PW.pt (pw_or (pt_not (pt_val (pe_call G_is_allowed (hr.mono hk_is_allowed) rfl D_is_allowed.m D_is_allowed.fn.kp D_is_allowed.b .nil pass0 (pa_cons (pv 0) pa_nil)))) (pw_or1 (pt_not (pt_val (pe_call G_has_form (hr.mono hk_has_form) rfl D_has_form.m D_has_form.fn.kp D_has_form.b .nil pass0 (pa_cons (pv 0) pa_nil))))))) (pss_one (ps_errN rfl (L2N.takes_of rfl rfl rfl rfl) rfl X_NotAllowed (hr.mono hk3) (by rfl))) pss_nil))
theorem ok_of_int {f : Addr} {fd : FuncData} {k : Nat} (D : DefAt K mg "of_int" s_of_int ["value"] f fd) {a_NotAllowed : Addr} (C_NotAllowed : ClsAt K mg "NotAllowed" a_NotAllowed) {a_TooLarge : Addr} (C_TooLarge : ClsAt K mg "TooLarge" a_TooLarge) (X_NotAllowed : ErrC P w K mg base "NotAllowed" a_NotAllowed) (hk3 : 3 ≤ k) {f_allowed : Addr} {fd_allowed : FuncData} {k_allowed : Nat} (D_allowed : DefAt K mg "allowed" s_allowed ["number"] f_allowed fd_allowed) (G_allowed : FnOk P w K mg base (L2N.CX P w) k_allowed f_allowed fd_allowed ["number"] (sp_allowed K a_TooLarge)) (hk_allowed : k_allowed ≤ k) {f_bare_number : Addr} {fd_bare_number : FuncData} {k_bare_number : Nat} (D_bare_number : DefAt K mg "bare_number" s_bare_number ["value"] f_bare_number fd_bare_number) (G_bare_number : FnOk P w K mg base CX0 k_bare_number f_bare_number fd_bare_number ["value"] (sp_bare_number K 7)) (hk_bare_number : k_bare_number ≤ k) {t_MAX_GIVEN_BITS : Tok} (m_MAX_GIVEN_BITS : mg "MAX_GIVEN_BITS" = some (.int 2900 t_MAX_GIVEN_BITS)) : FnOk P w K mg base (L2N.CX P w) (k + 1) f fd ["value"] (sp_of_int K a_NotAllowed a_TooLarge) := by
  have nd := sc_of_int.nd
  refine okXN D.fn sc_of_int (fun vs H Q E h => spX1.len h) (fun cdv A outer s H vs Q E hr h => ⟨t_of_int K a_NotAllowed a_TooLarge E, ?_, pure_of_int h⟩)
  exact (pss_cons (ps_if (pt_cmpR op_gt (pe_bits (pv 0)) (pe_glob rfl m_MAX_GIVEN_BITS ⟨_, rfl⟩) (nomark _)) (pss_one (ps_errN rfl (L2N.takes_of rfl rfl rfl rfl) rfl X_NotAllowed (hr.mono hk3) (by rfl))) pss_nil)
      (pss_one (ps_ret (pe_call G_allowed (hr.mono hk_allowed) rfl D_allowed.m D_allowed.fn.kp D_allowed.b .nil (L2N.passes_call (L2N.takes_of rfl rfl rfl rfl) (fun _ _ _ _ z => z)) (pa_cons (pe_call G_bare_number (hr.mono hk_bare_number) rfl D_bare_number.m D_bare_number.fn.kp D_bare_number.b .nil pass0 (pa_cons (pv 0) pa_nil)) pa_nil)))))
theorem okh_of_int {f : Addr} {fd : FuncData} {k : Nat} (D : DefAt K mg "of_int" s_of_int ["value"] f fd) {a_NotAllowed : Addr} (C_NotAllowed : ClsAt K mg "NotAllowed" a_NotAllowed) {a_TooLarge : Addr} (C_TooLarge : ClsAt K mg "TooLarge" a_TooLarge) (X_NotAllowed : ErrC P w K mg base "NotAllowed" a_NotAllowed) {f_allowed : Addr} {fd_allowed : FuncData} {k_allowed : Nat} (D_allowed : DefAt K mg "allowed" s_allowed ["number"] f_allowed fd_allowed) (GH_allowed : L2H.FnH P w K mg base CX0 k_allowed f_allowed fd_allowed ["number"] (spH (sp_allowed K a_TooLarge))) (hk_allowed : k_allowed ≤ k) {f_bare_number : Addr} {fd_bare_number : FuncData} {k_bare_number : Nat} (D_bare_number : DefAt K mg "bare_number" s_bare_number ["value"] f_bare_number fd_bare_number) (GH_bare_number : L2H.FnH P w K mg base CX0 k_bare_number f_bare_number fd_bare_number ["value"] (sp_bare_number K 7)) (hk_bare_number : k_bare_number ≤ k) {t_MAX_GIVEN_BITS : Tok} (m_MAX_GIVEN_BITS : mg "MAX_GIVEN_BITS" = some (.int 2900 t_MAX_GIVEN_BITS)) : L2H.FnH P w K mg base CX0 (k + 1) f fd ["value"] (spH (sp_of_int K a_NotAllowed a_TooLarge)) := by
  have nd := sc_of_int.nd
  refine okHot D.fn sc_of_int (fun vs H Q E h => spX1.len h) (fun cdv A outer s H vs Q E p hot hr h => ⟨t_of_int K a_NotAllowed a_TooLarge E0, ?_, pure_of_int h⟩)
  exact (pss_cons (ps_if (pt_cmpR op_gt (pe_bits (pv 0)) (pe_glob rfl m_MAX_GIVEN_BITS ⟨_, rfl⟩) (nomark _)) (pss_one (ps_raise0 X_NotAllowed.nm)) pss_nil)
      (pss_one (ps_ret (pe_callHot0 GH_allowed (hr.mono hk_allowed) (hotC_mk hot List.mem_cons_self) rfl D_allowed.m D_allowed.fn.kp D_allowed.b (pa_cons (pe_callHot GH_bare_number (hr.mono hk_bare_number) (hotC_mk hot List.mem_cons_self) rfl D_bare_number.m D_bare_number.fn.kp D_bare_number.b (pa_cons (pv 0) pa_nil)) pa_nil)))))
theorem ok_negate {f : Addr} {fd : FuncData} {k : Nat} (D : DefAt K mg "negate" s_negate ["number"] f fd) (b_tuple : mg "tuple" = none) : FnOk P w K mg base CX0 (k + 1) f fd ["number"] (sp_negate K) := by
  have nd := sc_negate.nd
  refine D.fn.ok sc_negate (fun vs H Q E h => spF1.len h) (fun cdv A outer s H vs Q E hr h => ⟨t_negate K, ?_, pure_negate h⟩)
  exact (pss_one (ps_ret (pe_tupleOf rfl b_tuple (pe_lc (own := [("sign", 1), ("exponent", 2)]) (g := (gTup K 2 (gCons (gName 1) (gCons (gName 2) gNil)))) (tt := tYes) (te := (tTup (tCons (tUn xNeg (tVar 1)) (tCons (tVar 2) tNil)))) rfl nd (pi_tup (pv 0)) (blkOk_by (own := [("sign", 1), ("exponent", 2)]) (N := N_negate) (sc := defScope s_negate) (by decide +kernel)) (fun _ _ _ _ _ => (pg_tup rfl (pgs_cons (pg_name (i := 1) nd rfl (.inl rfl)) (pgs_cons (pg_name (i := 2) nd rfl (.inl rfl)) pgs_nil)))) (fun _ _ _ _ _ => pts_nil) (fun _ _ _ _ _ => (pe_tup (pa_cons (pe_un un_neg (pv 1)) (pa_cons (pv 2) pa_nil))))))))
theorem ok_add {f : Addr} {fd : FuncData} {k : Nat} (D : DefAt K mg "add" s_add ["first", "second"] f fd) {a_TooLarge : Addr} (C_TooLarge : ClsAt K mg "TooLarge" a_TooLarge) {f_allowed : Addr} {fd_allowed : FuncData} {k_allowed : Nat} (D_allowed : DefAt K mg "allowed" s_allowed ["number"] f_allowed fd_allowed) (G_allowed : FnOk P w K mg base (L2N.CX P w) k_allowed f_allowed fd_allowed ["number"] (sp_allowed K a_TooLarge)) (hk_allowed : k_allowed ≤ k) {f_plus : Addr} {fd_plus : FuncData} {k_plus : Nat} (D_plus : DefAt K mg "plus" s_plus ["first", "second"] f_plus fd_plus) (G_plus : FnOk P w K mg base CX0 k_plus f_plus fd_plus ["first", "second"] (sp_plus K)) (hk_plus : k_plus ≤ k) : FnOk P w K mg base (L2N.CX P w) (k + 1) f fd ["first", "second"] (sp_add K a_TooLarge) := by
  have nd := sc_add.nd
  refine okXN D.fn sc_add (fun vs H Q E h => spX2.len h) (fun cdv A outer s H vs Q E hr h => ⟨t_add K a_TooLarge E, ?_, pure_add h⟩)
  exact (pss_one (ps_ret (pe_call G_allowed (hr.mono hk_allowed) rfl D_allowed.m D_allowed.fn.kp D_allowed.b .nil (L2N.passes_call (L2N.takes_of rfl rfl rfl rfl) (fun _ _ _ _ z => z)) (pa_cons (pe_call G_plus (hr.mono hk_plus) rfl D_plus.m D_plus.fn.kp D_plus.b .nil pass0 (pa_cons (pv 0) (pa_cons (pv 1) pa_nil))) pa_nil))))
theorem okh_add {f : Addr} {fd : FuncData} {k : Nat} (D : DefAt K mg "add" s_add ["first", "second"] f fd) {a_TooLarge : Addr} (C_TooLarge : ClsAt K mg "TooLarge" a_TooLarge) {f_allowed : Addr} {fd_allowed : FuncData} {k_allowed : Nat} (D_allowed : DefAt K mg "allowed" s_allowed ["number"] f_allowed fd_allowed) (GH_allowed : L2H.FnH P w K mg base CX0 k_allowed f_allowed fd_allowed ["number"] (spH (sp_allowed K a_TooLarge))) (hk_allowed : k_allowed ≤ k) {f_plus : Addr} {fd_plus : FuncData} {k_plus : Nat} (D_plus : DefAt K mg "plus" s_plus ["first", "second"] f_plus fd_plus) (GH_plus : L2H.FnH P w K mg base CX0 k_plus f_plus fd_plus ["first", "second"] (sp_plus K)) (hk_plus : k_plus ≤ k) : L2H.FnH P w K mg base CX0 (k + 1) f fd ["first", "second"] (spH (sp_add K a_TooLarge)) := by
  have nd := sc_add.nd
  refine okHot D.fn sc_add (fun vs H Q E h => spX2.len h) (fun cdv A outer s H vs Q E p hot hr h => ⟨t_add K a_TooLarge E0, ?_, pure_add h⟩)
  exact (pss_one (ps_ret (pe_callHot0 GH_allowed (hr.mono hk_allowed) (hotC_mk hot List.mem_cons_self) rfl D_allowed.m D_allowed.fn.kp D_allowed.b (pa_cons (pe_callHot GH_plus (hr.mono hk_plus) (hotC_mk hot List.mem_cons_self) rfl D_plus.m D_plus.fn.kp D_plus.b (pa_cons (pv 0) (pa_cons (pv 1) pa_nil))) pa_nil))))
theorem ok_sum_terms {f : Addr} {fd : FuncData} {k : Nat} (D : DefAt K mg "sum_terms" s_sum_terms ["terms"] f fd) {a_NotAllowed : Addr} (C_NotAllowed : ClsAt K mg "NotAllowed" a_NotAllowed) {a_TooLarge : Addr} (C_TooLarge : ClsAt K mg "TooLarge" a_TooLarge) (X_NotAllowed : ErrC P w K mg base "NotAllowed" a_NotAllowed) (X_TooLarge : ErrC P w K mg base "TooLarge" a_TooLarge) (hk3 : 3 ≤ k) {f_sign_of : Addr} {fd_sign_of : FuncData} {k_sign_of : Nat} (D_sign_of : DefAt K mg "sign_of" s_sign_of ["number"] f_sign_of fd_sign_of) (G_sign_of : FnOk P w K mg base CX0 k_sign_of f_sign_of fd_sign_of ["number"] (sp_sign_of K)) (hk_sign_of : k_sign_of ≤ k) {f_allowed : Addr} {fd_allowed : FuncData} {k_allowed : Nat} (D_allowed : DefAt K mg "allowed" s_allowed ["number"] f_allowed fd_allowed) (G_allowed : FnOk P w K mg base (L2N.CX P w) k_allowed f_allowed fd_allowed ["number"] (sp_allowed K a_TooLarge)) (hk_allowed : k_allowed ≤ k) {f_bare_sum : Addr} {fd_bare_sum : FuncData} {k_bare_sum : Nat} (D_bare_sum : DefAt K mg "bare_sum" s_bare_sum ["terms"] f_bare_sum fd_bare_sum) (G_bare_sum : FnOk P w K mg base CX0 k_bare_sum f_bare_sum fd_bare_sum ["terms"] (sp_bare_sum K)) (hk_bare_sum : k_bare_sum ≤ k) (b_len : mg "len" = none) {t_MAX_TERMS : Tok} (m_MAX_TERMS : mg "MAX_TERMS" = some (.int 400 t_MAX_TERMS)) : FnOk P w K mg base (L2N.CX P w) (k + 1) f fd ["terms"] (sp_sum_terms K a_NotAllowed a_TooLarge) := by
  have nd := sc_sum_terms.nd
  refine okXN D.fn sc_sum_terms (fun vs H Q E h => spX1.len h) (fun cdv A outer s H vs Q E hr h => ⟨t_sum_terms K a_NotAllowed a_TooLarge E, ?_, pure_sum_terms h⟩)
  exact (pss_cons (ps_for (passes_of rfl) rfl (pi_list (pv 0)) (pg_tup rfl (pgs_cons (pg_name (i := 1) nd rfl (.inl rfl)) (pgs_cons (pg_name (i := 2) nd rfl (.inl rfl)) pgs_nil))) (pss_one (ps_if (PW.pt (pw_or (pt_cmpR op_notIn_seq (pv 1) (pe_tup (pa_cons pe_int (pa_cons (pe_un un_neg pe_int) pa_nil))) (by rfl)) (pw_or1 (pt_cmpR op_lt (pe_call G_sign_of (hr.mono hk_sign_of) rfl D_sign_of.m D_sign_of.fn.kp D_sign_of.b .nil pass0 (pa_cons (pv 2) pa_nil)) pe_int (nomark _))))) (pss_one (ps_errN rfl (L2N.takes_of rfl rfl rfl rfl) rfl X_NotAllowed (hr.mono hk3) (by rfl))) pss_nil)))
      (pss_cons (ps_if (pt_cmpR op_gt (pe_callB call_len_seq (by rfl) b_len PySem.boot_len (pa_cons (pv 0) pa_nil)) (pe_glob rfl m_MAX_TERMS ⟨_, rfl⟩) (nomark _)) (pss_one (ps_errN rfl (L2N.takes_of rfl rfl rfl rfl) rfl X_TooLarge (hr.mono hk3) (by rfl))) pss_nil)
      (pss_one (ps_ret (pe_call G_allowed (hr.mono hk_allowed) rfl D_allowed.m D_allowed.fn.kp D_allowed.b .nil (L2N.passes_call (L2N.takes_of rfl rfl rfl rfl) (fun _ _ _ _ z => z)) (pa_cons (pe_call G_bare_sum (hr.mono hk_bare_sum) rfl D_bare_sum.m D_bare_sum.fn.kp D_bare_sum.b .nil pass0 (pa_cons (pv 0) pa_nil)) pa_nil))))))
theorem ok_bare_plain {f : Addr} {fd : FuncData} {k : Nat} (D : DefAt K mg "bare_plain" s_bare_plain ["element"] f fd) {f_plus : Addr} {fd_plus : FuncData} {k_plus : Nat} (D_plus : DefAt K mg "plus" s_plus ["first", "second"] f_plus fd_plus) (G_plus : FnOk P w K mg base CX0 k_plus f_plus fd_plus ["first", "second"] (sp_plus K)) (hk_plus : k_plus ≤ k) {f_bare_shift : Addr} {fd_bare_shift : FuncData} {k_bare_shift : Nat} (D_bare_shift : DefAt K mg "bare_shift" s_bare_shift ["terms", "places"] f_bare_shift fd_bare_shift) (G_bare_shift : FnOk P w K mg base CX0 k_bare_shift f_bare_shift fd_bare_shift ["terms", "places"] (sp_bare_shift K)) (hk_bare_shift : k_bare_shift ≤ k) {f_negate : Addr} {fd_negate : FuncData} {k_negate : Nat} (D_negate : DefAt K mg "negate" s_negate ["number"] f_negate fd_negate) (G_negate : FnOk P w K mg base CX0 k_negate f_negate fd_negate ["number"] (sp_negate K)) (hk_negate : k_negate ≤ k) : FnOk P w K mg base CX0 (k + 1) f fd ["element"] (sp_bare_plain K) := by
  have nd := sc_bare_plain.nd
  refine D.fn.ok sc_bare_plain (fun vs H Q E h => spF1.len h) (fun cdv A outer s H vs Q E hr h => ⟨t_bare_plain K, ?_, pure_bare_plain h⟩)
  exact (pss_cons (ps_asg (pv 0) (pg_tup rfl (pgs_cons (pg_name (i := 2) nd rfl (.inl rfl)) (pgs_cons (pg_name (i := 3) nd rfl (.inl rfl)) (pgs_cons (pg_name (i := 4) nd rfl (.inl rfl)) pgs_nil)))))
      (pss_cons (ps_if (pt_not (pt_truth (pv 2) (by intro _; rfl))) (pss_one (ps_ret (pe_tup (pa_cons (pe_tup pa_nil) (pa_cons (pe_tup pa_nil) (pa_cons (pv 4) pa_nil)))))) pss_nil)
      (pss_cons (ps_set (i := 1) nd rfl (.inl rfl) (pe_ix ix_tup (pe_ix ix_tup (pv 2) (pe_un un_neg pe_int) (fun _ _ => rfl)) pe_int (fun _ _ => rfl)))
      (pss_one (ps_ret (pe_ifExp (pt_truth (pv 1) (by intro _; rfl)) (pe_tup (pa_cons (pe_call G_bare_shift (hr.mono hk_bare_shift) rfl D_bare_shift.m D_bare_shift.fn.kp D_bare_shift.b .nil pass0 (pa_cons (pv 2) (pa_cons (pe_call G_negate (hr.mono hk_negate) rfl D_negate.m D_negate.fn.kp D_negate.b .nil pass0 (pa_cons (pv 1) pa_nil)) pa_nil))) (pa_cons (pe_call G_plus (hr.mono hk_plus) rfl D_plus.m D_plus.fn.kp D_plus.b .nil pass0 (pa_cons (pv 3) (pa_cons (pv 1) pa_nil))) (pa_cons (pv 4) pa_nil)))) (pv 0)))))))
theorem ok_sum_of_two {f : Addr} {fd : FuncData} {k : Nat} {d : Nat} (D : DefAt K mg "sum_of_two" s_sum_of_two ["u", "v", "x", "y"] f fd) {f_order : Addr} {fd_order : FuncData} {k_order : Nat} (D_order : DefAt K mg "order" s_order ["first", "second"] f_order fd_order) (G_order : FnOk P w K mg base CX0 k_order f_order fd_order ["first", "second"] (sp_order K)) (hk_order : k_order ≤ k) {f_plus : Addr} {fd_plus : FuncData} {k_plus : Nat} (D_plus : DefAt K mg "plus" s_plus ["first", "second"] f_plus fd_plus) (G_plus : FnOk P w K mg base CX0 k_plus f_plus fd_plus ["first", "second"] (sp_plus K)) (hk_plus : k_plus ≤ k) {f_bare_shift : Addr} {fd_bare_shift : FuncData} {k_bare_shift : Nat} (D_bare_shift : DefAt K mg "bare_shift" s_bare_shift ["terms", "places"] f_bare_shift fd_bare_shift) (G_bare_shift : FnOk P w K mg base CX0 k_bare_shift f_bare_shift fd_bare_shift ["terms", "places"] (sp_bare_shift K)) (hk_bare_shift : k_bare_shift ≤ k) {f_negate : Addr} {fd_negate : FuncData} {k_negate : Nat} (D_negate : DefAt K mg "negate" s_negate ["number"] f_negate fd_negate) (G_negate : FnOk P w K mg base CX0 k_negate f_negate fd_negate ["number"] (sp_negate K)) (hk_negate : k_negate ≤ k) (G_sum_of_two : FnOk P w K mg base CX0 k f fd ["u", "v", "x", "y"] (sp_sum_of_two K d)) : FnOk P w K mg base CX0 (k + 1) f fd ["u", "v", "x", "y"] (sp_sum_of_two K (d + 1)) := by
  have D_sum_of_two := D
  have nd := sc_sum_of_two.nd
  refine D.fn.ok sc_sum_of_two (fun vs H Q E h => spF4.len h) (fun cdv A outer s H vs Q E hr h => ⟨t_sum_of_two K d, ?_, pure_sum_of_two h⟩)
  exact (pss_cons (ps_if (pt_not (pt_truth (pv 0) (by intro _; rfl))) (pss_one (ps_ret (pe_tup (pa_cons (pv 2) (pa_cons (pv 3) pa_nil))))) pss_nil)
      (pss_cons (ps_if (pt_not (pt_truth (pv 2) (by intro _; rfl))) (pss_one (ps_ret (pe_tup (pa_cons (pv 0) (pa_cons (pv 1) pa_nil))))) pss_nil)
      (pss_cons (ps_if (pt_cmpR op_gt (pe_call G_order (hr.mono hk_order) rfl D_order.m D_order.fn.kp D_order.b .nil pass0 (pa_cons (pv 1) (pa_cons (pv 3) pa_nil))) pe_int (nomark _)) (pss_one (ps_ret (pe_call G_sum_of_two hr rfl D_sum_of_two.m D_sum_of_two.fn.kp D_sum_of_two.b .nil pass0 (pa_cons (pv 2) (pa_cons (pv 3) (pa_cons (pv 0) (pa_cons (pv 1) pa_nil))))))) pss_nil)
      (pss_one (ps_ret (pe_tup (pa_cons (pe_call G_plus (hr.mono hk_plus) rfl D_plus.m D_plus.fn.kp D_plus.b .nil pass0 (pa_cons (pv 0) (pa_cons (pe_call G_bare_shift (hr.mono hk_bare_shift) rfl D_bare_shift.m D_bare_shift.fn.kp D_bare_shift.b .nil pass0 (pa_cons (pv 2) (pa_cons (pe_call G_plus (hr.mono hk_plus) rfl D_plus.m D_plus.fn.kp D_plus.b .nil pass0 (pa_cons (pv 3) (pa_cons (pe_call G_negate (hr.mono hk_negate) rfl D_negate.m D_negate.fn.kp D_negate.b .nil pass0 (pa_cons (pv 1) pa_nil)) pa_nil))) pa_nil))) pa_nil))) (pa_cons (pv 1) pa_nil))))))))
theorem ok_bare_product {f : Addr} {fd : FuncData} {k : Nat} (D : DefAt K mg "bare_product" s_bare_product ["first", "second"] f fd) {f_sum_of_two : Addr} {fd_sum_of_two : FuncData} {k_sum_of_two : Nat} (D_sum_of_two : DefAt K mg "sum_of_two" s_sum_of_two ["u", "v", "x", "y"] f_sum_of_two fd_sum_of_two) (G_sum_of_two : FnOk P w K mg base CX0 k_sum_of_two f_sum_of_two fd_sum_of_two ["u", "v", "x", "y"] (sp_sum_of_two K 2)) (hk_sum_of_two : k_sum_of_two ≤ k) {f_plus : Addr} {fd_plus : FuncData} {k_plus : Nat} (D_plus : DefAt K mg "plus" s_plus ["first", "second"] f_plus fd_plus) (G_plus : FnOk P w K mg base CX0 k_plus f_plus fd_plus ["first", "second"] (sp_plus K)) (hk_plus : k_plus ≤ k) {f_bare_plain : Addr} {fd_bare_plain : FuncData} {k_bare_plain : Nat} (D_bare_plain : DefAt K mg "bare_plain" s_bare_plain ["element"] f_bare_plain fd_bare_plain) (G_bare_plain : FnOk P w K mg base CX0 k_bare_plain f_bare_plain fd_bare_plain ["element"] (sp_bare_plain K)) (hk_bare_plain : k_bare_plain ≤ k) : FnOk P w K mg base CX0 (k + 1) f fd ["first", "second"] (sp_bare_product K) := by
  have nd := sc_bare_product.nd
  refine D.fn.ok sc_bare_product (fun vs H Q E h => spF2.len h) (fun cdv A outer s H vs Q E hr h => ⟨t_bare_product K, ?_, pure_bare_product h⟩)
  exact (pss_cons (ps_asg (pv 0) (pg_tup rfl (pgs_cons (pg_name (i := 2) nd rfl (.inl rfl)) (pgs_cons (pg_name (i := 3) nd rfl (.inl rfl)) (pgs_cons (pg_name (i := 4) nd rfl (.inl rfl)) pgs_nil)))))
      (pss_cons (ps_asg (pv 1) (pg_tup rfl (pgs_cons (pg_name (i := 5) nd rfl (.inl rfl)) (pgs_cons (pg_name (i := 6) nd rfl (.inl rfl)) (pgs_cons (pg_name (i := 7) nd rfl (.inl rfl)) pgs_nil)))))
      (pss_cons (ps_asg (pe_call G_sum_of_two (hr.mono hk_sum_of_two) rfl D_sum_of_two.m D_sum_of_two.fn.kp D_sum_of_two.b .nil pass0 (pa_cons (pv 2) (pa_cons (pv 3) (pa_cons (pv 5) (pa_cons (pe_call G_plus (hr.mono hk_plus) rfl D_plus.m D_plus.fn.kp D_plus.b .nil pass0 (pa_cons (pv 6) (pa_cons (pv 4) pa_nil))) pa_nil))))) (pg_tup rfl (pgs_cons (pg_name (i := 8) nd rfl (.inl rfl)) (pgs_cons (pg_name (i := 9) nd rfl (.inl rfl)) pgs_nil))))
      (pss_one (ps_ret (pe_call G_bare_plain (hr.mono hk_bare_plain) rfl D_bare_plain.m D_bare_plain.fn.kp D_bare_plain.b .nil pass0 (pa_cons (pe_tup (pa_cons (pv 8) (pa_cons (pv 9) (pa_cons (pe_call G_plus (hr.mono hk_plus) rfl D_plus.m D_plus.fn.kp D_plus.b .nil pass0 (pa_cons (pv 4) (pa_cons (pv 7) pa_nil))) pa_nil)))) pa_nil)))))))
theorem ok_bare_inverse {f : Addr} {fd : FuncData} {k : Nat} (D : DefAt K mg "bare_inverse" s_bare_inverse ["element"] f fd) {f_bare_plain : Addr} {fd_bare_plain : FuncData} {k_bare_plain : Nat} (D_bare_plain : DefAt K mg "bare_plain" s_bare_plain ["element"] f_bare_plain fd_bare_plain) (G_bare_plain : FnOk P w K mg base CX0 k_bare_plain f_bare_plain fd_bare_plain ["element"] (sp_bare_plain K)) (hk_bare_plain : k_bare_plain ≤ k) {f_negate : Addr} {fd_negate : FuncData} {k_negate : Nat} (D_negate : DefAt K mg "negate" s_negate ["number"] f_negate fd_negate) (G_negate : FnOk P w K mg base CX0 k_negate f_negate fd_negate ["number"] (sp_negate K)) (hk_negate : k_negate ≤ k) {f_plus : Addr} {fd_plus : FuncData} {k_plus : Nat} (D_plus : DefAt K mg "plus" s_plus ["first", "second"] f_plus fd_plus) (G_plus : FnOk P w K mg base CX0 k_plus f_plus fd_plus ["first", "second"] (sp_plus K)) (hk_plus : k_plus ≤ k) : FnOk P w K mg base CX0 (k + 1) f fd ["element"] (sp_bare_inverse K) := by
  have nd := sc_bare_inverse.nd
  refine D.fn.ok sc_bare_inverse (fun vs H Q E h => spF1.len h) (fun cdv A outer s H vs Q E hr h => ⟨t_bare_inverse K, ?_, pure_bare_inverse h⟩)
  exact (pss_cons (ps_asg (pv 0) (pg_tup rfl (pgs_cons (pg_name (i := 1) nd rfl (.inl rfl)) (pgs_cons (pg_name (i := 2) nd rfl (.inl rfl)) (pgs_cons (pg_name (i := 3) nd rfl (.inl rfl)) pgs_nil)))))
      (pss_one (ps_ret (pe_call G_bare_plain (hr.mono hk_bare_plain) rfl D_bare_plain.m D_bare_plain.fn.kp D_bare_plain.b .nil pass0 (pa_cons (pe_tup (pa_cons (pe_call G_negate (hr.mono hk_negate) rfl D_negate.m D_negate.fn.kp D_negate.b .nil pass0 (pa_cons (pv 1) pa_nil)) (pa_cons (pe_call G_plus (hr.mono hk_plus) rfl D_plus.m D_plus.fn.kp D_plus.b .nil pass0 (pa_cons (pv 2) (pa_cons (pe_call G_negate (hr.mono hk_negate) rfl D_negate.m D_negate.fn.kp D_negate.b .nil pass0 (pa_cons (pv 3) pa_nil)) pa_nil))) (pa_cons (pe_call G_negate (hr.mono hk_negate) rfl D_negate.m D_negate.fn.kp D_negate.b .nil pass0 (pa_cons (pv 3) pa_nil)) pa_nil)))) pa_nil)))))
theorem ok_allowed_el {f : Addr} {fd : FuncData} {k : Nat} (D : DefAt K mg "allowed_element" s_allowed_el ["element"] f fd) {a_TooLarge : Addr} (C_TooLarge : ClsAt K mg "TooLarge" a_TooLarge) {f_allowed : Addr} {fd_allowed : FuncData} {k_allowed : Nat} (D_allowed : DefAt K mg "allowed" s_allowed ["number"] f_allowed fd_allowed) (G_allowed : FnOk P w K mg base (L2N.CX P w) k_allowed f_allowed fd_allowed ["number"] (sp_allowed K a_TooLarge)) (hk_allowed : k_allowed ≤ k) (b_tuple : mg "tuple" = none) : FnOk P w K mg base (L2N.CX P w) (k + 1) f fd ["element"] (sp_allowed_el K a_TooLarge) := by
  have nd := sc_allowed_el.nd
  refine okXN D.fn sc_allowed_el (fun vs H Q E h => spX1.len h) (fun cdv A outer s H vs Q E hr h => ⟨t_allowed_el K a_TooLarge E, ?_, pure_allowed_el h⟩)
  exact (pss_one (ps_ret (pe_tupleOf rfl b_tuple (L2N.pe_lcE (own := [("number", 1)]) (g := (gName 1)) (tt := tYes) (te := fun V => (tCallS (sp_allowed K a_TooLarge) (WE V) (tCons (tVar 1) tNil))) (W := (fun cls d _ H => E cls d H)) rfl rfl (L2N.takes_of rfl rfl rfl rfl) rfl nd (pi_tup (pv 0)) (blkOk_by (own := [("number", 1)]) (N := N_allowed_el) (sc := defScope s_allowed_el) (by decide +kernel)) (fun _ _ _ _ _ => (pg_name (i := 1) nd rfl (.inl rfl))) (fun _ _ _ _ _ => pts_nil) (fun _ _ _ _ _ xe V pz => (pe_callS G_allowed (hr.mono hk_allowed) rfl D_allowed.m D_allowed.fn.kp D_allowed.b pz (pa_cons (pv 1) pa_nil)))))))
theorem ok_is_plain {f : Addr} {fd : FuncData} {k : Nat} (D : DefAt K mg "is_plain" s_is_plain ["element"] f fd) : FnOk P w K mg base CX0 (k + 1) f fd ["element"] (sp_is_plain K) := by
  have nd := sc_is_plain.nd
  refine D.fn.ok sc_is_plain (fun vs H Q E h => spF1.len h) (fun cdv A outer s H vs Q E hr h => ⟨t_is_plain K, ?_, pure_is_plain h⟩)
  exact (pss_cons (ps_asg (pv 0) (pg_tup rfl (pgs_cons (pg_name (i := 1) nd rfl (.inl rfl)) (pgs_cons (pg_name (i := 2) nd rfl (.inl rfl)) (pgs_cons (pg_name (i := 3) nd rfl (.inl rfl)) pgs_nil)))))
      (pss_one (ps_ret (pe_ifExp (pt_truth (pv 1) (by intro _; rfl)) (pe_cmpR (op_eqN (hu150 hr)) (pe_ix ix_tup (pe_ix ix_tup (pv 1) (pe_un un_neg pe_int) (fun _ _ => rfl)) pe_int (fun _ _ => rfl)) (pe_tup pa_nil) (nomark _)) (pe_cmpR (op_eqN (hu150 hr)) (pv 2) (pe_tup pa_nil) (nomark _))))))
theorem ok_plain_elX {f : Addr} {fd : FuncData} {k : Nat} (D : DefAt K mg "plain" s_plain_elX ["element"] f fd) {a_TooLarge : Addr} (C_TooLarge : ClsAt K mg "TooLarge" a_TooLarge) {f_allowed_element : Addr} {fd_allowed_element : FuncData} {k_allowed_element : Nat} (D_allowed_element : DefAt K mg "allowed_element" s_allowed_el ["element"] f_allowed_element fd_allowed_element) (G_allowed_element : FnOk P w K mg base (L2N.CX P w) k_allowed_element f_allowed_element fd_allowed_element ["element"] (sp_allowed_el K a_TooLarge)) (hk_allowed_element : k_allowed_element ≤ k) {f_bare_plain : Addr} {fd_bare_plain : FuncData} {k_bare_plain : Nat} (D_bare_plain : DefAt K mg "bare_plain" s_bare_plain ["element"] f_bare_plain fd_bare_plain) (G_bare_plain : FnOk P w K mg base CX0 k_bare_plain f_bare_plain fd_bare_plain ["element"] (sp_bare_plain K)) (hk_bare_plain : k_bare_plain ≤ k) : FnOk P w K mg base (L2N.CX P w) (k + 1) f fd ["element"] (sp_plain_elX K a_TooLarge) := by
  have nd := sc_plain_elX.nd
  refine okXN D.fn sc_plain_elX (fun vs H Q E h => spX1.len h) (fun cdv A outer s H vs Q E hr h => ⟨t_plain_elX K a_TooLarge E, ?_, pure_plain_elX h⟩)
  exact (pss_one (ps_ret (pe_call G_allowed_element (hr.mono hk_allowed_element) rfl D_allowed_element.m D_allowed_element.fn.kp D_allowed_element.b .nil (L2N.passes_call (L2N.takes_of rfl rfl rfl rfl) (fun _ _ _ _ z => z)) (pa_cons (pe_call G_bare_plain (hr.mono hk_bare_plain) rfl D_bare_plain.m D_bare_plain.fn.kp D_bare_plain.b .nil pass0 (pa_cons (pv 0) pa_nil)) pa_nil))))
theorem ok_mul_el {f : Addr} {fd : FuncData} {k : Nat} (D : DefAt K mg "multiply_elements" s_mul_el ["first", "second"] f fd) {a_TooLarge : Addr} (C_TooLarge : ClsAt K mg "TooLarge" a_TooLarge) {f_allowed_element : Addr} {fd_allowed_element : FuncData} {k_allowed_element : Nat} (D_allowed_element : DefAt K mg "allowed_element" s_allowed_el ["element"] f_allowed_element fd_allowed_element) (G_allowed_element : FnOk P w K mg base (L2N.CX P w) k_allowed_element f_allowed_element fd_allowed_element ["element"] (sp_allowed_el K a_TooLarge)) (hk_allowed_element : k_allowed_element ≤ k) {f_bare_product : Addr} {fd_bare_product : FuncData} {k_bare_product : Nat} (D_bare_product : DefAt K mg "bare_product" s_bare_product ["first", "second"] f_bare_product fd_bare_product) (G_bare_product : FnOk P w K mg base CX0 k_bare_product f_bare_product fd_bare_product ["first", "second"] (sp_bare_product K)) (hk_bare_product : k_bare_product ≤ k) : FnOk P w K mg base (L2N.CX P w) (k + 1) f fd ["first", "second"] (sp_mul_el K a_TooLarge) := by
  have nd := sc_mul_el.nd
  refine okXN D.fn sc_mul_el (fun vs H Q E h => spX2.len h) (fun cdv A outer s H vs Q E hr h => ⟨t_mul_el K a_TooLarge E, ?_, pure_mul_el h⟩)
  exact (pss_one (ps_ret (pe_call G_allowed_element (hr.mono hk_allowed_element) rfl D_allowed_element.m D_allowed_element.fn.kp D_allowed_element.b .nil (L2N.passes_call (L2N.takes_of rfl rfl rfl rfl) (fun _ _ _ _ z => z)) (pa_cons (pe_call G_bare_product (hr.mono hk_bare_product) rfl D_bare_product.m D_bare_product.fn.kp D_bare_product.b .nil pass0 (pa_cons (pv 0) (pa_cons (pv 1) pa_nil))) pa_nil))))
theorem ok_inv_el {f : Addr} {fd : FuncData} {k : Nat} (D : DefAt K mg "inverse_element" s_inv_el ["element"] f fd) {a_TooLarge : Addr} (C_TooLarge : ClsAt K mg "TooLarge" a_TooLarge) {f_allowed_element : Addr} {fd_allowed_element : FuncData} {k_allowed_element : Nat} (D_allowed_element : DefAt K mg "allowed_element" s_allowed_el ["element"] f_allowed_element fd_allowed_element) (G_allowed_element : FnOk P w K mg base (L2N.CX P w) k_allowed_element f_allowed_element fd_allowed_element ["element"] (sp_allowed_el K a_TooLarge)) (hk_allowed_element : k_allowed_element ≤ k) {f_bare_inverse : Addr} {fd_bare_inverse : FuncData} {k_bare_inverse : Nat} (D_bare_inverse : DefAt K mg "bare_inverse" s_bare_inverse ["element"] f_bare_inverse fd_bare_inverse) (G_bare_inverse : FnOk P w K mg base CX0 k_bare_inverse f_bare_inverse fd_bare_inverse ["element"] (sp_bare_inverse K)) (hk_bare_inverse : k_bare_inverse ≤ k) : FnOk P w K mg base (L2N.CX P w) (k + 1) f fd ["element"] (sp_inv_el K a_TooLarge) := by
  have nd := sc_inv_el.nd
  refine okXN D.fn sc_inv_el (fun vs H Q E h => spX1.len h) (fun cdv A outer s H vs Q E hr h => ⟨t_inv_el K a_TooLarge E, ?_, pure_inv_el h⟩)
  exact (pss_one (ps_ret (pe_call G_allowed_element (hr.mono hk_allowed_element) rfl D_allowed_element.m D_allowed_element.fn.kp D_allowed_element.b .nil (L2N.passes_call (L2N.takes_of rfl rfl rfl rfl) (fun _ _ _ _ z => z)) (pa_cons (pe_call G_bare_inverse (hr.mono hk_bare_inverse) rfl D_bare_inverse.m D_bare_inverse.fn.kp D_bare_inverse.b .nil pass0 (pa_cons (pv 0) pa_nil)) pa_nil))))
theorem ok_law_numbers44 {f : Addr} {fd : FuncData} {k : Nat} (D : DefAt K mg "_law_numbers" s_law_numbers44 ["script", "many"] f fd) (b_range : mg "range" = none) (b_len : mg "len" = none) (b_abs : mg "abs" = none) (b_int : mg "int" = none) (b_max : mg "max" = none) : FnOk P w K mg base CX0 (k + 1) f fd ["script", "many"] (sp_law_numbers44 K) := by
  have nd := sc_law_numbers44.nd
  refine D.fn.ok sc_law_numbers44 (fun vs H Q E h => spF2.len h) (fun cdv A outer s H vs Q E hr h => ⟨t_law_numbers44 K, ?_, pure_law_numbers44 h⟩)
  exact (pss_cons (ps_set (i := 2) nd rfl (.inl rfl) (pe_lst pa_nil))
      (pss_cons (ps_for PassesOwn.never rfl (pi_range1 rfl b_range (pa_cons (pe_callB call_len_seq (by rfl) b_len PySem.boot_len (pa_cons (pv 0) pa_nil)) pa_nil)) (pg_name (i := 3) nd rfl (.inl rfl)) (pss_cons (ps_set (i := 6) nd rfl (.inl rfl) (pe_callB call_abs (by rfl) b_abs (by decide +kernel) (pa_cons (pe_callTy call_int1 (by rfl) b_int (by decide +kernel) (pa_cons (pe_ix ix_list (pv 0) (pv 3) (fun _ _ => rfl)) pa_nil)) pa_nil)))
      (pss_one (ps_if (pt_cmpR op_ge (pv 6) (pe_op op_pow pe_int pe_int) (nomark _)) (pss_one (ps_for PassesOwn.never rfl (pi_range1 rfl b_range (pa_cons pe_int pa_nil)) (pg_name (i := 7) nd rfl (.inl rfl)) (pss_one (ps_if (PW.pt (pw_and (pt_cmpR op_gt (pv 6) pe_int (nomark _)) (pw_and1 (pt_cmpR op_lt (pe_callB call_len_seq (by rfl) b_len PySem.boot_len (pa_cons (pv 2) pa_nil)) (pv 1) (nomark _))))) (pss_cons (ps_expr (pe_bm PySem.F.plainAttrs_list PySem.F.slot_list_append PySem.F.type_list_append mt_append (pv 2) (pa_cons (pe_op op_mod (pv 6) pe_int) pa_nil)))
      (pss_one (ps_set (i := 6) nd rfl (.inl rfl) (pe_op op_fdiv (pv 6) pe_int)))) pss_nil)))) (pss_one (ps_if (pt_cmpR op_lt (pe_callB call_len_seq (by rfl) b_len PySem.boot_len (pa_cons (pv 2) pa_nil)) (pv 1) (nomark _)) (pss_cons (ps_set (i := 8) nd rfl (.inl rfl) (pe_op op_mod (pe_callTy call_int1 (by rfl) b_int (by decide +kernel) (pa_cons (pe_op op_add (pe_op op_add (pe_op op_mul (pv 6) pe_int) (pe_op op_mul (pv 3) pe_int)) pe_int) pa_nil)) pe_int))
      (pss_one (ps_expr (pe_bm PySem.F.plainAttrs_list PySem.F.slot_list_append PySem.F.type_list_append mt_append (pv 2) (pa_cons (pe_op op_fdiv (pe_op op_mod (pe_callTy call_int1 (by rfl) b_int (by decide +kernel) (pa_cons (pe_op op_add (pe_op op_add (pe_op op_mul (pv 8) pe_int) (pe_op op_mul pe_int (pv 3))) pe_int) pa_nil)) pe_int) pe_int) pa_nil))))) pss_nil))))))
      (pss_cons (ps_set (i := 4) nd rfl (.inl rfl) (pe_callB call_len_seq (by rfl) b_len PySem.boot_len (pa_cons (pv 2) pa_nil)))
      (pss_cons (ps_set (i := 5) nd rfl (.inl rfl) (pe_op op_add pe_int (pe_callB call_len_seq (by rfl) b_len PySem.boot_len (pa_cons (pv 0) pa_nil))))
      (pss_cons (ps_for PassesOwn.never rfl (pi_range1 rfl b_range (pa_cons (pe_callB (call_max2 rfl) (by rfl) b_max (by decide +kernel) (pa_cons pe_int (pa_cons (pe_op op_sub (pv 1) (pv 4)) pa_nil))) pa_nil)) (pg_name (i := 3) nd rfl (.inl rfl)) (pss_cons (ps_if (pt_cmpR op_gt (pv 4) pe_int (nomark _)) (pss_one (ps_set (i := 5) nd rfl (.inl rfl) (pe_op op_add (pv 5) (pe_ix ix_list (pv 2) (pe_op op_mod (pv 3) (pv 4)) (fun _ _ => rfl))))) pss_nil)
      (pss_cons (ps_set (i := 5) nd rfl (.inl rfl) (pe_op op_mod (pe_callTy call_int1 (by rfl) b_int (by decide +kernel) (pa_cons (pe_op op_add (pe_op op_mul (pv 5) pe_int) (pv 3)) pa_nil)) pe_int))
      (pss_one (ps_expr (pe_bm PySem.F.plainAttrs_list PySem.F.slot_list_append PySem.F.type_list_append mt_append (pv 2) (pa_cons (pe_op op_fdiv (pv 5) pe_int) pa_nil)))))))
      (pss_one (ps_ret (pe_slice sl_list (pv 2) po_none (po_some (pv 1))))))))))
theorem ok_law_tower46 {f : Addr} {fd : FuncData} {k : Nat} (D : DefAt K mg "_law_tower" s_law_tower46 ["numbers", "height"] f fd) {a_NotAllowed : Addr} (C_NotAllowed : ClsAt K mg "NotAllowed" a_NotAllowed) {a_TooLarge : Addr} (C_TooLarge : ClsAt K mg "TooLarge" a_TooLarge) {f_of_int : Addr} {fd_of_int : FuncData} {k_of_int : Nat} (D_of_int : DefAt K mg "of_int" s_of_int ["value"] f_of_int fd_of_int) (G_of_int : FnOk P w K mg base (L2N.CX P w) k_of_int f_of_int fd_of_int ["value"] (sp_of_int K a_NotAllowed a_TooLarge)) (hk_of_int : k_of_int ≤ k) {f_add : Addr} {fd_add : FuncData} {k_add : Nat} (D_add : DefAt K mg "add" s_add ["first", "second"] f_add fd_add) (G_add : FnOk P w K mg base (L2N.CX P w) k_add f_add fd_add ["first", "second"] (sp_add K a_TooLarge)) (hk_add : k_add ≤ k) (b_range : mg "range" = none) : FnOk P w K mg base CX0 (k + 1) f fd ["numbers", "height"] (sp_law_tower46 K) := by
  have nd := sc_law_tower46.nd
  refine D.fn.ok sc_law_tower46 (fun vs H Q E h => spF2.len h) (fun cdv A outer s H vs Q E hr h => ⟨t_law_tower46 K a_NotAllowed a_TooLarge, ?_, pure_law_tower46 h⟩)
  exact (pss_cons (ps_set (i := 2) nd rfl (.inl rfl) (pe_call G_of_int (hr.mono hk_of_int) rfl D_of_int.m D_of_int.fn.kp D_of_int.b .nil passLN (pa_cons (pe_op op_add pe_int (pe_op op_mod (pe_ix ix_list (pv 0) pe_int (fun _ _ => rfl)) pe_int)) pa_nil)))
      (pss_cons (ps_for PassesOwn.never rfl (pi_range1 rfl b_range (pa_cons (pv 1) pa_nil)) (pg_name (i := 3) nd rfl (.inl rfl)) (pss_one (ps_set (i := 2) nd rfl (.inl rfl) (pe_call G_add (hr.mono hk_add) rfl D_add.m D_add.fn.kp D_add.b .nil passLN (pa_cons (pe_tup (pa_cons (pe_tup (pa_cons pe_int (pa_cons (pv 2) pa_nil))) pa_nil)) (pa_cons (pe_call G_of_int (hr.mono hk_of_int) rfl D_of_int.m D_of_int.fn.kp D_of_int.b .nil passLN (pa_cons (pe_op op_mul pe_int (pe_op op_mod (pe_ix ix_list (pv 0) (pe_op op_add pe_int (pv 3)) (fun _ _ => rfl)) pe_int)) pa_nil)) pa_nil))))))
      (pss_one (ps_ret (pv 2)))))
theorem okh_law_tower46 {f : Addr} {fd : FuncData} {k : Nat} (D : DefAt K mg "_law_tower" s_law_tower46 ["numbers", "height"] f fd) {a_NotAllowed : Addr} (C_NotAllowed : ClsAt K mg "NotAllowed" a_NotAllowed) {a_TooLarge : Addr} (C_TooLarge : ClsAt K mg "TooLarge" a_TooLarge) {f_of_int : Addr} {fd_of_int : FuncData} {k_of_int : Nat} (D_of_int : DefAt K mg "of_int" s_of_int ["value"] f_of_int fd_of_int) (GH_of_int : L2H.FnH P w K mg base CX0 k_of_int f_of_int fd_of_int ["value"] (spH (sp_of_int K a_NotAllowed a_TooLarge))) (hk_of_int : k_of_int ≤ k) {f_add : Addr} {fd_add : FuncData} {k_add : Nat} (D_add : DefAt K mg "add" s_add ["first", "second"] f_add fd_add) (GH_add : L2H.FnH P w K mg base CX0 k_add f_add fd_add ["first", "second"] (spH (sp_add K a_TooLarge))) (hk_add : k_add ≤ k) (b_range : mg "range" = none) : L2H.FnH P w K mg base CX0 (k + 1) f fd ["numbers", "height"] (sp_law_tower46 K) := by
  have nd := sc_law_tower46.nd
  refine okHot D.fn sc_law_tower46 (fun vs H Q E h => spF2.len h) (fun cdv A outer s H vs Q E p hot hr h => ⟨t_law_tower46 K a_NotAllowed a_TooLarge, ?_, pure_law_tower46 h⟩)
  exact (pss_cons (ps_set (i := 2) nd rfl (.inl rfl) (pe_callHot0 GH_of_int (hr.mono hk_of_int) (hotC_mk hot List.mem_cons_self) rfl D_of_int.m D_of_int.fn.kp D_of_int.b (pa_cons (pe_op op_add pe_int (pe_op op_mod (pe_ix ix_list (pv 0) pe_int (fun _ _ => rfl)) pe_int)) pa_nil)))
      (pss_cons (L2H.ps_forH (passes_of rfl) (hotC_mk hot List.mem_cons_self) (L2H.pi_range1H rfl b_range (pa_cons (pv 1) pa_nil)) (pg_name (i := 3) nd rfl (.inl rfl)) (pss_one (ps_set (i := 2) nd rfl (.inl rfl) (pe_callHot0 GH_add (hr.mono hk_add) (hotC_mk hot List.mem_cons_self) rfl D_add.m D_add.fn.kp D_add.b (pa_cons (pe_tup (pa_cons (pe_tup (pa_cons pe_int (pa_cons (pv 2) pa_nil))) pa_nil)) (pa_cons (pe_callHot0 GH_of_int (hr.mono hk_of_int) (hotC_mk hot List.mem_cons_self) rfl D_of_int.m D_of_int.fn.kp D_of_int.b (pa_cons (pe_op op_mul pe_int (pe_op op_mod (pe_ix ix_list (pv 0) (pe_op op_add pe_int (pv 3)) (fun _ _ => rfl)) pe_int)) pa_nil)) pa_nil))))))
      (pss_one (ps_ret (pv 2)))))
theorem ok_law_drawn46 {f : Addr} {fd : FuncData} {k : Nat} (D : DefAt K mg "_law_drawn" s_law_drawn46 ["numbers"] f fd) {a_NotAllowed : Addr} (C_NotAllowed : ClsAt K mg "NotAllowed" a_NotAllowed) {a_TooLarge : Addr} (C_TooLarge : ClsAt K mg "TooLarge" a_TooLarge) {f_add : Addr} {fd_add : FuncData} {k_add : Nat} (D_add : DefAt K mg "add" s_add ["first", "second"] f_add fd_add) (G_add : FnOk P w K mg base (L2N.CX P w) k_add f_add fd_add ["first", "second"] (sp_add K a_TooLarge)) (hk_add : k_add ≤ k) {f_of_int : Addr} {fd_of_int : FuncData} {k_of_int : Nat} (D_of_int : DefAt K mg "of_int" s_of_int ["value"] f_of_int fd_of_int) (G_of_int : FnOk P w K mg base (L2N.CX P w) k_of_int f_of_int fd_of_int ["value"] (sp_of_int K a_NotAllowed a_TooLarge)) (hk_of_int : k_of_int ≤ k) {f__law_tower : Addr} {fd__law_tower : FuncData} {k__law_tower : Nat} (D__law_tower : DefAt K mg "_law_tower" s_law_tower46 ["numbers", "height"] f__law_tower fd__law_tower) (G__law_tower : FnOk P w K mg base CX0 k__law_tower f__law_tower fd__law_tower ["numbers", "height"] (sp_law_tower46 K)) (hk__law_tower : k__law_tower ≤ k) : FnOk P w K mg base CX0 (k + 1) f fd ["numbers"] (sp_law_drawn46 K) := by
  have nd := sc_law_drawn46.nd
  refine D.fn.ok sc_law_drawn46 (fun vs H Q E h => spF1.len h) (fun cdv A outer s H vs Q E hr h => ⟨t_law_drawn46 K a_NotAllowed a_TooLarge, ?_, pure_law_drawn46 h⟩)
  exact (pss_cons (ps_set (i := 1) nd rfl (.inl rfl) (pe_call G_add (hr.mono hk_add) rfl D_add.m D_add.fn.kp D_add.b .nil passLN (pa_cons (pe_tup (pa_cons (pe_tup (pa_cons pe_int (pa_cons (pe_call G_add (hr.mono hk_add) rfl D_add.m D_add.fn.kp D_add.b .nil passLN (pa_cons (pe_call G__law_tower (hr.mono hk__law_tower) rfl D__law_tower.m D__law_tower.fn.kp D__law_tower.b .nil pass0 (pa_cons (pv 0) (pa_cons (pe_op op_mod (pe_ix ix_list (pv 0) pe_int (fun _ _ => rfl)) pe_int) pa_nil))) (pa_cons (pe_call G_of_int (hr.mono hk_of_int) rfl D_of_int.m D_of_int.fn.kp D_of_int.b .nil passLN (pa_cons pe_int pa_nil)) pa_nil))) pa_nil))) pa_nil)) (pa_cons (pe_call G_of_int (hr.mono hk_of_int) rfl D_of_int.m D_of_int.fn.kp D_of_int.b .nil passLN (pa_cons (pe_ix ix_list (pe_lst (pa_cons pe_int (pa_cons (pe_un un_neg pe_int) (pa_cons pe_int (pa_cons pe_int pa_nil))))) (pe_op op_mod (pe_ix ix_list (pv 0) pe_int (fun _ _ => rfl)) pe_int) (fun _ _ => rfl)) pa_nil)) pa_nil))))
      (pss_cons (ps_if (pt_cmpR op_eq (pe_op op_mod (pe_ix ix_list (pv 0) pe_int (fun _ _ => rfl)) pe_int) pe_int (nomark _)) (pss_one (ps_set (i := 1) nd rfl (.inl rfl) (pe_call G_of_int (hr.mono hk_of_int) rfl D_of_int.m D_of_int.fn.kp D_of_int.b .nil passLN (pa_cons (pe_ix ix_list (pe_lst (pa_cons pe_int (pa_cons (pe_un un_neg pe_int) (pa_cons pe_int (pa_cons (pe_un un_neg pe_int) pa_nil))))) (pe_op op_mod (pe_ix ix_list (pv 0) pe_int (fun _ _ => rfl)) pe_int) (fun _ _ => rfl)) pa_nil)))) pss_nil)
      (pss_cons (ps_set (i := 2) nd rfl (.inl rfl) (pe_call G__law_tower (hr.mono hk__law_tower) rfl D__law_tower.m D__law_tower.fn.kp D__law_tower.b .nil pass0 (pa_cons (pe_slice sl_list (pv 0) (po_some pe_int) po_none) (pa_cons (pe_op op_mod (pe_ix ix_list (pv 0) pe_int (fun _ _ => rfl)) pe_int) pa_nil))))
      (pss_cons (ps_set (i := 3) nd rfl (.inl rfl) (pe_call G__law_tower (hr.mono hk__law_tower) rfl D__law_tower.m D__law_tower.fn.kp D__law_tower.b .nil pass0 (pa_cons (pe_slice sl_list (pv 0) (po_some pe_int) po_none) (pa_cons (pe_op op_mod (pe_ix ix_list (pv 0) pe_int (fun _ _ => rfl)) pe_int) pa_nil))))
      (pss_cons (ps_if (pt_cmpR op_eq (pe_op op_mod (pe_ix ix_list (pv 0) pe_int (fun _ _ => rfl)) pe_int) pe_int (nomark _)) (pss_one (ps_set (i := 3) nd rfl (.inl rfl) (pe_tup pa_nil))) pss_nil)
      (pss_cons (ps_if (pt_cmpR op_eq (pe_op op_mod (pe_ix ix_list (pv 0) pe_int (fun _ _ => rfl)) pe_int) pe_int (nomark _)) (pss_one (ps_ret (pe_tup (pa_cons (pe_tup pa_nil) (pa_cons (pe_tup pa_nil) (pa_cons (pv 3) pa_nil)))))) pss_nil)
      (pss_one (ps_ret (pe_tup (pa_cons (pv 1) (pa_cons (pv 2) (pa_cons (pv 3) pa_nil))))))))))))
theorem okh_law_drawn46 {f : Addr} {fd : FuncData} {k : Nat} (D : DefAt K mg "_law_drawn" s_law_drawn46 ["numbers"] f fd) {a_NotAllowed : Addr} (C_NotAllowed : ClsAt K mg "NotAllowed" a_NotAllowed) {a_TooLarge : Addr} (C_TooLarge : ClsAt K mg "TooLarge" a_TooLarge) {f_add : Addr} {fd_add : FuncData} {k_add : Nat} (D_add : DefAt K mg "add" s_add ["first", "second"] f_add fd_add) (GH_add : L2H.FnH P w K mg base CX0 k_add f_add fd_add ["first", "second"] (spH (sp_add K a_TooLarge))) (hk_add : k_add ≤ k) {f_of_int : Addr} {fd_of_int : FuncData} {k_of_int : Nat} (D_of_int : DefAt K mg "of_int" s_of_int ["value"] f_of_int fd_of_int) (GH_of_int : L2H.FnH P w K mg base CX0 k_of_int f_of_int fd_of_int ["value"] (spH (sp_of_int K a_NotAllowed a_TooLarge))) (hk_of_int : k_of_int ≤ k) {f__law_tower : Addr} {fd__law_tower : FuncData} {k__law_tower : Nat} (D__law_tower : DefAt K mg "_law_tower" s_law_tower46 ["numbers", "height"] f__law_tower fd__law_tower) (GH__law_tower : L2H.FnH P w K mg base CX0 k__law_tower f__law_tower fd__law_tower ["numbers", "height"] (sp_law_tower46 K)) (hk__law_tower : k__law_tower ≤ k) : L2H.FnH P w K mg base CX0 (k + 1) f fd ["numbers"] (sp_law_drawn46 K) := by
  have nd := sc_law_drawn46.nd
  refine okHot D.fn sc_law_drawn46 (fun vs H Q E h => spF1.len h) (fun cdv A outer s H vs Q E p hot hr h => ⟨t_law_drawn46 K a_NotAllowed a_TooLarge, ?_, pure_law_drawn46 h⟩)
  exact (pss_cons (ps_set (i := 1) nd rfl (.inl rfl) (pe_callHot0 GH_add (hr.mono hk_add) (hotC_mk hot List.mem_cons_self) rfl D_add.m D_add.fn.kp D_add.b (pa_cons (pe_tup (pa_cons (pe_tup (pa_cons pe_int (pa_cons (pe_callHot0 GH_add (hr.mono hk_add) (hotC_mk hot List.mem_cons_self) rfl D_add.m D_add.fn.kp D_add.b (pa_cons (pe_callHot GH__law_tower (hr.mono hk__law_tower) (hotC_mk hot List.mem_cons_self) rfl D__law_tower.m D__law_tower.fn.kp D__law_tower.b (pa_cons (pv 0) (pa_cons (pe_op op_mod (pe_ix ix_list (pv 0) pe_int (fun _ _ => rfl)) pe_int) pa_nil))) (pa_cons (pe_callHot0 GH_of_int (hr.mono hk_of_int) (hotC_mk hot List.mem_cons_self) rfl D_of_int.m D_of_int.fn.kp D_of_int.b (pa_cons pe_int pa_nil)) pa_nil))) pa_nil))) pa_nil)) (pa_cons (pe_callHot0 GH_of_int (hr.mono hk_of_int) (hotC_mk hot List.mem_cons_self) rfl D_of_int.m D_of_int.fn.kp D_of_int.b (pa_cons (pe_ix ix_list (pe_lst (pa_cons pe_int (pa_cons (pe_un un_neg pe_int) (pa_cons pe_int (pa_cons pe_int pa_nil))))) (pe_op op_mod (pe_ix ix_list (pv 0) pe_int (fun _ _ => rfl)) pe_int) (fun _ _ => rfl)) pa_nil)) pa_nil))))
      (pss_cons (ps_if (pt_cmpR op_eq (pe_op op_mod (pe_ix ix_list (pv 0) pe_int (fun _ _ => rfl)) pe_int) pe_int (nomark _)) (pss_one (ps_set (i := 1) nd rfl (.inl rfl) (pe_callHot0 GH_of_int (hr.mono hk_of_int) (hotC_mk hot List.mem_cons_self) rfl D_of_int.m D_of_int.fn.kp D_of_int.b (pa_cons (pe_ix ix_list (pe_lst (pa_cons pe_int (pa_cons (pe_un un_neg pe_int) (pa_cons pe_int (pa_cons (pe_un un_neg pe_int) pa_nil))))) (pe_op op_mod (pe_ix ix_list (pv 0) pe_int (fun _ _ => rfl)) pe_int) (fun _ _ => rfl)) pa_nil)))) pss_nil)
      (pss_cons (ps_set (i := 2) nd rfl (.inl rfl) (pe_callHot GH__law_tower (hr.mono hk__law_tower) (hotC_mk hot List.mem_cons_self) rfl D__law_tower.m D__law_tower.fn.kp D__law_tower.b (pa_cons (pe_slice sl_list (pv 0) (po_some pe_int) po_none) (pa_cons (pe_op op_mod (pe_ix ix_list (pv 0) pe_int (fun _ _ => rfl)) pe_int) pa_nil))))
      (pss_cons (ps_set (i := 3) nd rfl (.inl rfl) (pe_callHot GH__law_tower (hr.mono hk__law_tower) (hotC_mk hot List.mem_cons_self) rfl D__law_tower.m D__law_tower.fn.kp D__law_tower.b (pa_cons (pe_slice sl_list (pv 0) (po_some pe_int) po_none) (pa_cons (pe_op op_mod (pe_ix ix_list (pv 0) pe_int (fun _ _ => rfl)) pe_int) pa_nil))))
      (pss_cons (ps_if (pt_cmpR op_eq (pe_op op_mod (pe_ix ix_list (pv 0) pe_int (fun _ _ => rfl)) pe_int) pe_int (nomark _)) (pss_one (ps_set (i := 3) nd rfl (.inl rfl) (pe_tup pa_nil))) pss_nil)
      (pss_cons (ps_if (pt_cmpR op_eq (pe_op op_mod (pe_ix ix_list (pv 0) pe_int (fun _ _ => rfl)) pe_int) pe_int (nomark _)) (pss_one (ps_ret (pe_tup (pa_cons (pe_tup pa_nil) (pa_cons (pe_tup pa_nil) (pa_cons (pv 3) pa_nil)))))) pss_nil)
      (pss_one (ps_ret (pe_tup (pa_cons (pv 1) (pa_cons (pv 2) (pa_cons (pv 3) pa_nil))))))))))))
theorem ok_law_low46 {f : Addr} {fd : FuncData} {k : Nat} (D : DefAt K mg "_law_low" s_law_low46 ["numbers"] f fd) {a_NotAllowed : Addr} (C_NotAllowed : ClsAt K mg "NotAllowed" a_NotAllowed) {a_TooLarge : Addr} (C_TooLarge : ClsAt K mg "TooLarge" a_TooLarge) {f_of_int : Addr} {fd_of_int : FuncData} {k_of_int : Nat} (D_of_int : DefAt K mg "of_int" s_of_int ["value"] f_of_int fd_of_int) (G_of_int : FnOk P w K mg base (L2N.CX P w) k_of_int f_of_int fd_of_int ["value"] (sp_of_int K a_NotAllowed a_TooLarge)) (hk_of_int : k_of_int ≤ k) {f__law_tower : Addr} {fd__law_tower : FuncData} {k__law_tower : Nat} (D__law_tower : DefAt K mg "_law_tower" s_law_tower46 ["numbers", "height"] f__law_tower fd__law_tower) (G__law_tower : FnOk P w K mg base CX0 k__law_tower f__law_tower fd__law_tower ["numbers", "height"] (sp_law_tower46 K)) (hk__law_tower : k__law_tower ≤ k) : FnOk P w K mg base CX0 (k + 1) f fd ["numbers"] (sp_law_low46 K) := by
  have nd := sc_law_low46.nd
  refine D.fn.ok sc_law_low46 (fun vs H Q E h => spF1.len h) (fun cdv A outer s H vs Q E hr h => ⟨t_law_low46 K a_NotAllowed a_TooLarge, ?_, pure_law_low46 h⟩)
  exact (pss_cons (ps_set (i := 1) nd rfl (.inl rfl) (pe_call G_of_int (hr.mono hk_of_int) rfl D_of_int.m D_of_int.fn.kp D_of_int.b .nil passLN (pa_cons (pe_ix ix_list (pe_lst (pa_cons pe_int (pa_cons (pe_un un_neg pe_int) (pa_cons pe_int (pa_cons pe_int pa_nil))))) (pe_op op_mod (pe_ix ix_list (pv 0) pe_int (fun _ _ => rfl)) pe_int) (fun _ _ => rfl)) pa_nil)))
      (pss_one (ps_ret (pe_tup (pa_cons (pv 1) (pa_cons (pe_call G__law_tower (hr.mono hk__law_tower) rfl D__law_tower.m D__law_tower.fn.kp D__law_tower.b .nil pass0 (pa_cons (pe_slice sl_list (pv 0) (po_some pe_int) po_none) (pa_cons (pe_op op_mod (pe_ix ix_list (pv 0) pe_int (fun _ _ => rfl)) pe_int) pa_nil))) (pa_cons (pe_call G__law_tower (hr.mono hk__law_tower) rfl D__law_tower.m D__law_tower.fn.kp D__law_tower.b .nil pass0 (pa_cons (pe_slice sl_list (pv 0) (po_some pe_int) po_none) (pa_cons (pe_op op_mod (pe_ix ix_list (pv 0) pe_int (fun _ _ => rfl)) pe_int) pa_nil))) pa_nil)))))))
theorem ok_law_good46 {f : Addr} {fd : FuncData} {k : Nat} (D : DefAt K mg "_law_good" s_law_good46 ["element"] f fd) {a_NotAllowed : Addr} (C_NotAllowed : ClsAt K mg "NotAllowed" a_NotAllowed) {a_TooLarge : Addr} (C_TooLarge : ClsAt K mg "TooLarge" a_TooLarge) {f_check_number : Addr} {fd_check_number : FuncData} {k_check_number : Nat} (D_check_number : DefAt K mg "check_number" s_check_number ["number"] f_check_number fd_check_number) (G_check_number : FnOk P w K mg base (L2N.CX P w) k_check_number f_check_number fd_check_number ["number"] (sp_check_number K a_NotAllowed)) (hk_check_number : k_check_number ≤ k) {f_is_plain : Addr} {fd_is_plain : FuncData} {k_is_plain : Nat} (D_is_plain : DefAt K mg "is_plain" s_is_plain ["element"] f_is_plain fd_is_plain) (G_is_plain : FnOk P w K mg base CX0 k_is_plain f_is_plain fd_is_plain ["element"] (sp_is_plain K)) (hk_is_plain : k_is_plain ≤ k) {f_plain : Addr} {fd_plain : FuncData} {k_plain : Nat} (D_plain : DefAt K mg "plain" s_plain_elX ["element"] f_plain fd_plain) (G_plain : FnOk P w K mg base (L2N.CX P w) k_plain f_plain fd_plain ["element"] (sp_plain_elX K a_TooLarge)) (hk_plain : k_plain ≤ k) : FnOk P w K mg base CX0 (k + 1) f fd ["element"] (sp_law_good46 K) := by
  have nd := sc_law_good46.nd
  refine D.fn.ok sc_law_good46 (fun vs H Q E h => spF1.len h) (fun cdv A outer s H vs Q E hr h => ⟨t_law_good46 K a_NotAllowed a_TooLarge, ?_, pure_law_good46 h⟩)
  exact (pss_cons (ps_for PassesOwn.never rfl (pi_tup (pv 0)) (pg_name (i := 1) nd rfl (.inl rfl)) (pss_one (ps_if (pt_cmpR op_notN (pe_call G_check_number (hr.mono hk_check_number) rfl D_check_number.m D_check_number.fn.kp D_check_number.b .nil passLN (pa_cons (pv 1) pa_nil)) pe_non (nomark _)) (pss_one (ps_ret pe_bl)) pss_nil)))
      (pss_one (ps_ret (pe_and (pe_cmpR op_isBl (pe_call G_is_plain (hr.mono hk_is_plain) rfl D_is_plain.m D_is_plain.fn.kp D_is_plain.b .nil pass0 (pa_cons (pv 0) pa_nil)) pe_bl (nomark _)) (pe_one (pe_cmpR (op_eqN (hu150 hr)) (pe_call G_plain (hr.mono hk_plain) rfl D_plain.m D_plain.fn.kp D_plain.b .nil passLN (pa_cons (pv 0) pa_nil)) (pv 0) (nomark _)))))))
theorem ok_law_wide46 {f : Addr} {fd : FuncData} {k : Nat} (D : DefAt K mg "_law_wide" s_law_wide46 ["first"] f fd) {a_NotAllowed : Addr} (C_NotAllowed : ClsAt K mg "NotAllowed" a_NotAllowed) {a_TooLarge : Addr} (C_TooLarge : ClsAt K mg "TooLarge" a_TooLarge) {f_of_int : Addr} {fd_of_int : FuncData} {k_of_int : Nat} (D_of_int : DefAt K mg "of_int" s_of_int ["value"] f_of_int fd_of_int) (G_of_int : FnOk P w K mg base (L2N.CX P w) k_of_int f_of_int fd_of_int ["value"] (sp_of_int K a_NotAllowed a_TooLarge)) (hk_of_int : k_of_int ≤ k) {f_sum_terms : Addr} {fd_sum_terms : FuncData} {k_sum_terms : Nat} (D_sum_terms : DefAt K mg "sum_terms" s_sum_terms ["terms"] f_sum_terms fd_sum_terms) (G_sum_terms : FnOk P w K mg base (L2N.CX P w) k_sum_terms f_sum_terms fd_sum_terms ["terms"] (sp_sum_terms K a_NotAllowed a_TooLarge)) (hk_sum_terms : k_sum_terms ≤ k) (b_range : mg "range" = none) : FnOk P w K mg base CX0 (k + 1) f fd ["first"] (sp_law_wide46 K) := by
  have nd := sc_law_wide46.nd
  refine D.fn.ok sc_law_wide46 (fun vs H Q E h => spF1.len h) (fun cdv A outer s H vs Q E hr h => ⟨t_law_wide46 K a_NotAllowed a_TooLarge, ?_, pure_law_wide46 h⟩)
  exact (pss_cons (ps_set (i := 1) nd rfl (.inl rfl) (pe_lst pa_nil))
      (pss_cons (ps_for PassesOwn.never rfl (pi_range1 rfl b_range (pa_cons pe_int pa_nil)) (pg_name (i := 2) nd rfl (.inl rfl)) (pss_one (ps_expr (pe_bm PySem.F.plainAttrs_list PySem.F.slot_list_append PySem.F.type_list_append mt_append (pv 1) (pa_cons (pe_tup (pa_cons pe_int (pa_cons (pe_call G_of_int (hr.mono hk_of_int) rfl D_of_int.m D_of_int.fn.kp D_of_int.b .nil passLN (pa_cons (pe_op op_add (pe_op op_mul pe_int (pv 2)) (pv 0)) pa_nil)) pa_nil))) pa_nil)))))
      (pss_one (ps_ret (pe_call G_sum_terms (hr.mono hk_sum_terms) rfl D_sum_terms.m D_sum_terms.fn.kp D_sum_terms.b .nil passLN (pa_cons (pv 1) pa_nil))))))
theorem ok_law_told46 {f : Addr} {fd : FuncData} {k : Nat} (D : DefAt K mg "_law_told" s_law_told46 ["kind", "first", "second"] f fd) {a_NotAllowed : Addr} (C_NotAllowed : ClsAt K mg "NotAllowed" a_NotAllowed) {a_ReckonError : Addr} (C_ReckonError : ClsAt K mg "ReckonError" a_ReckonError) {a_TooLarge : Addr} (C_TooLarge : ClsAt K mg "TooLarge" a_TooLarge) {f_multiply_elements : Addr} {fd_multiply_elements : FuncData} {k_multiply_elements : Nat} (D_multiply_elements : DefAt K mg "multiply_elements" s_mul_el ["first", "second"] f_multiply_elements fd_multiply_elements) (G_multiply_elements : FnOk P w K mg base (L2N.CX P w) k_multiply_elements f_multiply_elements fd_multiply_elements ["first", "second"] (sp_mul_el K a_TooLarge)) (hk_multiply_elements : k_multiply_elements ≤ k) {f_inverse_element : Addr} {fd_inverse_element : FuncData} {k_inverse_element : Nat} (D_inverse_element : DefAt K mg "inverse_element" s_inv_el ["element"] f_inverse_element fd_inverse_element) (G_inverse_element : FnOk P w K mg base (L2N.CX P w) k_inverse_element f_inverse_element fd_inverse_element ["element"] (sp_inv_el K a_TooLarge)) (hk_inverse_element : k_inverse_element ≤ k) {f_plain : Addr} {fd_plain : FuncData} {k_plain : Nat} (D_plain : DefAt K mg "plain" s_plain_elX ["element"] f_plain fd_plain) (G_plain : FnOk P w K mg base (L2N.CX P w) k_plain f_plain fd_plain ["element"] (sp_plain_elX K a_TooLarge)) (hk_plain : k_plain ≤ k) (b_isinstance : mg "isinstance" = none) (hx1 : PySem.W.exmOne K (.ref a_TooLarge) (.ref a_ReckonError) = some true) (hR1 : PySem.W.kitOne K (.ref a_TooLarge) (.ref a_TooLarge) = some true) (hA1 : PySem.W.kitOne K (.ref a_TooLarge) (.ref a_NotAllowed) = some false) : FnOk P w K mg base CX0 (k + 1) f fd ["kind", "first", "second"] (sp_law_told46 K) := by
  have nd := sc_law_told46.nd
  refine D.fn.ok sc_law_told46 (fun vs H Q E h => spF3.len h) (fun cdv A outer s H vs Q E hr h => ⟨t_law_told46 K a_NotAllowed a_ReckonError a_TooLarge, ?_, pure_law_told46 hx1 hR1 hA1 h⟩)
  exact (pss_cons (L2N.ps_try_as (i := 3) rfl rfl nd rfl rfl ⟨rfl, by decide, .inl C_ReckonError.m⟩ takes0N (tb := fun W => (tIfS (tTest (tOp rEq (tVar 0) (tC (.int 0)))) (tDrop (tCallS (sp_mul_el K a_TooLarge) (WE W) (tCons (tVar 1) (tCons (tVar 2) tNil)))) (tIfS (tTest (tOp rEq (tVar 0) (tC (.int 1)))) (tDrop (tCallS (sp_inv_el K a_TooLarge) (WE W) (tCons (tVar 1) tNil))) (tDrop (tCallS (sp_plain_elX K a_TooLarge) (WE W) (tCons (tVar 1) tNil)))))) (fun W pn xe tk hpo => (pss_one (ps_if (pt_cmpR op_eq (pv 0) pe_int (nomark _)) (pss_one (ps_expr (pe_callS G_multiply_elements (hr.mono hk_multiply_elements) rfl D_multiply_elements.m D_multiply_elements.fn.kp D_multiply_elements.b (fun σ => L2N.passAt tk σ) (pa_cons (pv 1) (pa_cons (pv 2) pa_nil))))) (pss_one (ps_if (pt_cmpR op_eq (pv 0) pe_int (nomark _)) (pss_one (ps_expr (pe_callS G_inverse_element (hr.mono hk_inverse_element) rfl D_inverse_element.m D_inverse_element.fn.kp D_inverse_element.b (fun σ => L2N.passAt tk σ) (pa_cons (pv 1) pa_nil)))) (pss_one (ps_expr (pe_callS G_plain (hr.mono hk_plain) rfl D_plain.m D_plain.fn.kp D_plain.b (fun σ => L2N.passAt tk σ) (pa_cons (pv 1) pa_nil))))))))) (ts := fun a cls d => (tRet (tAndV (tCB (rIsEc K a_TooLarge a cls d) (tCons (tVar 3) (tCons (tC (.ref a_TooLarge)) tNil))) (tNotV (tCB (rIsEc K a_TooLarge a cls d) (tCons (tVar 3) (tCons (tC (.ref a_NotAllowed)) tNil))))))) (fun a oe cls d pn hz hf => (pss_one (ps_ret (pe_and (pe_callB (call_isEc C_TooLarge.e hz.zc hf) (by rfl) b_isinstance (by decide +kernel) (pa_cons (pv 3) (pa_cons (pe_glob rfl C_TooLarge.m rfl) pa_nil))) (pe_one (pe_not (pe_callB (call_isEc C_TooLarge.e hz.zc hf) (by rfl) b_isinstance (by decide +kernel) (pa_cons (pv 3) (pa_cons (pe_glob rfl C_NotAllowed.m rfl) pa_nil))))))))))
      (pss_one (ps_ret pe_bl)))
theorem ok_law_refused46 {f : Addr} {fd : FuncData} {k : Nat} (D : DefAt K mg "_law_refused" s_law_refused46 [] f fd) {a_NotAllowed : Addr} (C_NotAllowed : ClsAt K mg "NotAllowed" a_NotAllowed) {a_TooLarge : Addr} (C_TooLarge : ClsAt K mg "TooLarge" a_TooLarge) {f__law_wide : Addr} {fd__law_wide : FuncData} {k__law_wide : Nat} (D__law_wide : DefAt K mg "_law_wide" s_law_wide46 ["first"] f__law_wide fd__law_wide) (G__law_wide : FnOk P w K mg base CX0 k__law_wide f__law_wide fd__law_wide ["first"] (sp_law_wide46 K)) (hk__law_wide : k__law_wide ≤ k) {f_of_int : Addr} {fd_of_int : FuncData} {k_of_int : Nat} (D_of_int : DefAt K mg "of_int" s_of_int ["value"] f_of_int fd_of_int) (G_of_int : FnOk P w K mg base (L2N.CX P w) k_of_int f_of_int fd_of_int ["value"] (sp_of_int K a_NotAllowed a_TooLarge)) (hk_of_int : k_of_int ≤ k) {f_negate : Addr} {fd_negate : FuncData} {k_negate : Nat} (D_negate : DefAt K mg "negate" s_negate ["number"] f_negate fd_negate) (G_negate : FnOk P w K mg base CX0 k_negate f_negate fd_negate ["number"] (sp_negate K)) (hk_negate : k_negate ≤ k) {f_add : Addr} {fd_add : FuncData} {k_add : Nat} (D_add : DefAt K mg "add" s_add ["first", "second"] f_add fd_add) (G_add : FnOk P w K mg base (L2N.CX P w) k_add f_add fd_add ["first", "second"] (sp_add K a_TooLarge)) (hk_add : k_add ≤ k) {f__law_told : Addr} {fd__law_told : FuncData} {k__law_told : Nat} (D__law_told : DefAt K mg "_law_told" s_law_told46 ["kind", "first", "second"] f__law_told fd__law_told) (G__law_told : FnOk P w K mg base CX0 k__law_told f__law_told fd__law_told ["kind", "first", "second"] (sp_law_told46 K)) (hk__law_told : k__law_told ≤ k) {f_plain : Addr} {fd_plain : FuncData} {k_plain : Nat} (D_plain : DefAt K mg "plain" s_plain_elX ["element"] f_plain fd_plain) (G_plain : FnOk P w K mg base (L2N.CX P w) k_plain f_plain fd_plain ["element"] (sp_plain_elX K a_TooLarge)) (hk_plain : k_plain ≤ k) {f_inverse_element : Addr} {fd_inverse_element : FuncData} {k_inverse_element : Nat} (D_inverse_element : DefAt K mg "inverse_element" s_inv_el ["element"] f_inverse_element fd_inverse_element) (G_inverse_element : FnOk P w K mg base (L2N.CX P w) k_inverse_element f_inverse_element fd_inverse_element ["element"] (sp_inv_el K a_TooLarge)) (hk_inverse_element : k_inverse_element ≤ k) : FnOk P w K mg base CX0 (k + 1) f fd [] (sp_law_refused46 K) := by
  have nd := sc_law_refused46.nd
  refine D.fn.ok sc_law_refused46 (fun vs H Q E h => spF0.len h) (fun cdv A outer s H vs Q E hr h => ⟨t_law_refused46 K a_NotAllowed a_TooLarge, ?_, pure_law_refused46 h⟩)
  exact (pss_cons (ps_set (i := 0) nd rfl (.inl rfl) (pe_call G__law_wide (hr.mono hk__law_wide) rfl D__law_wide.m D__law_wide.fn.kp D__law_wide.b .nil pass0 (pa_cons pe_int pa_nil)))
      (pss_cons (ps_set (i := 1) nd rfl (.inl rfl) (pe_call G__law_wide (hr.mono hk__law_wide) rfl D__law_wide.m D__law_wide.fn.kp D__law_wide.b .nil pass0 (pa_cons pe_int pa_nil)))
      (pss_cons (ps_set (i := 2) nd rfl (.inl rfl) (pe_call G_of_int (hr.mono hk_of_int) rfl D_of_int.m D_of_int.fn.kp D_of_int.b .nil passLN (pa_cons pe_int pa_nil)))
      (pss_cons (ps_set (i := 3) nd rfl (.inl rfl) (pe_lst (pa_cons (pe_tup (pa_cons pe_int (pa_cons (pe_tup (pa_cons (pe_tup pa_nil) (pa_cons (pe_tup pa_nil) (pa_cons (pv 0) pa_nil)))) (pa_cons (pe_tup (pa_cons (pe_tup pa_nil) (pa_cons (pe_tup pa_nil) (pa_cons (pv 1) pa_nil)))) pa_nil)))) (pa_cons (pe_tup (pa_cons pe_int (pa_cons (pe_tup (pa_cons (pe_call G_add (hr.mono hk_add) rfl D_add.m D_add.fn.kp D_add.b .nil passLN (pa_cons (pv 0) (pa_cons (pv 2) pa_nil))) (pa_cons (pe_tup pa_nil) (pa_cons (pe_tup pa_nil) pa_nil)))) (pa_cons (pe_tup (pa_cons (pv 1) (pa_cons (pe_tup pa_nil) (pa_cons (pe_tup pa_nil) pa_nil)))) pa_nil)))) (pa_cons (pe_tup (pa_cons pe_int (pa_cons (pe_tup (pa_cons (pv 2) (pa_cons (pv 0) (pa_cons (pe_call G_negate (hr.mono hk_negate) rfl D_negate.m D_negate.fn.kp D_negate.b .nil pass0 (pa_cons (pv 1) pa_nil)) pa_nil)))) (pa_cons (pe_tup pa_nil) pa_nil)))) pa_nil)))))
      (pss_cons (ps_set (i := 3) nd rfl (.inl rfl) (pe_op op_cat (pv 3) (pe_lst (pa_cons (pe_tup (pa_cons pe_int (pa_cons (pe_tup (pa_cons (pe_tup (pa_cons (pe_tup (pa_cons pe_int (pa_cons (pv 1) pa_nil))) pa_nil)) (pa_cons (pv 0) (pa_cons (pe_tup pa_nil) pa_nil)))) (pa_cons (pe_tup pa_nil) pa_nil)))) (pa_cons (pe_tup (pa_cons pe_int (pa_cons (pe_tup (pa_cons (pe_tup pa_nil) (pa_cons (pe_tup pa_nil) (pa_cons (pv 0) pa_nil)))) (pa_cons (pe_tup (pa_cons (pv 2) (pa_cons (pv 1) (pa_cons (pe_call G_negate (hr.mono hk_negate) rfl D_negate.m D_negate.fn.kp D_negate.b .nil pass0 (pa_cons (pv 0) pa_nil)) pa_nil)))) pa_nil)))) pa_nil)))))
      (pss_cons (ps_for PassesOwn.never rfl (pi_list (pv 3)) (pg_tup rfl (pgs_cons (pg_name (i := 4) nd rfl (.inl rfl)) (pgs_cons (pg_name (i := 5) nd rfl (.inl rfl)) (pgs_cons (pg_name (i := 6) nd rfl (.inl rfl)) pgs_nil)))) (pss_one (ps_if (pt_not (pt_val (pe_call G__law_told (hr.mono hk__law_told) rfl D__law_told.m D__law_told.fn.kp D__law_told.b .nil pass0 (pa_cons (pv 4) (pa_cons (pv 5) (pa_cons (pv 6) pa_nil)))))) (pss_one (ps_ret pe_bl)) pss_nil)))
      (pss_one (ps_ret (pe_and (pe_cmpR (op_eqN (hu150 hr)) (pe_call G_plain (hr.mono hk_plain) rfl D_plain.m D_plain.fn.kp D_plain.b .nil passLN (pa_cons (pe_tup (pa_cons (pv 2) (pa_cons (pv 0) (pa_cons (pv 1) pa_nil)))) pa_nil)) (pe_tup (pa_cons (pv 2) (pa_cons (pv 0) (pa_cons (pv 1) pa_nil)))) (nomark _)) (pe_one (pe_cmpR (op_eqN (hu150 hr)) (pe_call G_inverse_element (hr.mono hk_inverse_element) rfl D_inverse_element.m D_inverse_element.fn.kp D_inverse_element.b .nil passLN (pa_cons (pe_tup (pa_cons (pe_tup pa_nil) (pa_cons (pe_tup pa_nil) (pa_cons (pv 1) pa_nil)))) pa_nil)) (pe_tup (pa_cons (pe_tup pa_nil) (pa_cons (pe_tup pa_nil) (pa_cons (pe_call G_negate (hr.mono hk_negate) rfl D_negate.m D_negate.fn.kp D_negate.b .nil pass0 (pa_cons (pv 1) pa_nil)) pa_nil)))) (nomark _))))))))))))
theorem ok_law_agrees46 {f : Addr} {fd : FuncData} {k : Nat} (D : DefAt K mg "_law_agrees" s_law_agrees46 ["rows"] f fd) {a_TooLarge : Addr} (C_TooLarge : ClsAt K mg "TooLarge" a_TooLarge) {f_multiply_elements : Addr} {fd_multiply_elements : FuncData} {k_multiply_elements : Nat} (D_multiply_elements : DefAt K mg "multiply_elements" s_mul_el ["first", "second"] f_multiply_elements fd_multiply_elements) (G_multiply_elements : FnOk P w K mg base (L2N.CX P w) k_multiply_elements f_multiply_elements fd_multiply_elements ["first", "second"] (sp_mul_el K a_TooLarge)) (hk_multiply_elements : k_multiply_elements ≤ k) {f__law_good : Addr} {fd__law_good : FuncData} {k__law_good : Nat} (D__law_good : DefAt K mg "_law_good" s_law_good46 ["element"] f__law_good fd__law_good) (G__law_good : FnOk P w K mg base CX0 k__law_good f__law_good fd__law_good ["element"] (sp_law_good46 K)) (hk__law_good : k__law_good ≤ k) {f_inverse_element : Addr} {fd_inverse_element : FuncData} {k_inverse_element : Nat} (D_inverse_element : DefAt K mg "inverse_element" s_inv_el ["element"] f_inverse_element fd_inverse_element) (G_inverse_element : FnOk P w K mg base (L2N.CX P w) k_inverse_element f_inverse_element fd_inverse_element ["element"] (sp_inv_el K a_TooLarge)) (hk_inverse_element : k_inverse_element ≤ k) {a_UNIT : Addr} (m_UNIT : mg "UNIT" = some (.ref a_UNIT)) (d_UNIT : UnitAt K a_UNIT) : FnOk P w K mg base (L2N.CX P w) (k + 1) f fd ["rows"] (sp_law_agrees46 K a_TooLarge) := by
  have nd := sc_law_agrees46.nd
  refine okXN D.fn sc_law_agrees46 (fun vs H Q E h => spX1.len h) (fun cdv A outer s H vs Q E hr h => ⟨t_law_agrees46 K a_TooLarge a_UNIT E, ?_, pure_law_agrees46 d_UNIT h⟩)
  exact (pss_cons (ps_asg (pv 0) (pg_lst rfl (pgs_cons (pg_name (i := 4) nd rfl (.inl rfl)) (pgs_cons (pg_name (i := 5) nd rfl (.inl rfl)) (pgs_cons (pg_name (i := 6) nd rfl (.inl rfl)) pgs_nil)))))
      (pss_cons (ps_set (i := 1) nd rfl (.inl rfl) (pe_call G_multiply_elements (hr.mono hk_multiply_elements) rfl D_multiply_elements.m D_multiply_elements.fn.kp D_multiply_elements.b .nil (L2N.passes_call (L2N.takes_of rfl rfl rfl rfl) (fun _ _ _ _ z => z)) (pa_cons (pe_call G_multiply_elements (hr.mono hk_multiply_elements) rfl D_multiply_elements.m D_multiply_elements.fn.kp D_multiply_elements.b .nil (L2N.passes_call (L2N.takes_of rfl rfl rfl rfl) (fun _ _ _ _ z => z)) (pa_cons (pv 4) (pa_cons (pv 5) pa_nil))) (pa_cons (pv 6) pa_nil))))
      (pss_cons (ps_if (PW.pt (pw_or (pt_cmpR (op_neN (hu150 hr)) (pv 1) (pe_call G_multiply_elements (hr.mono hk_multiply_elements) rfl D_multiply_elements.m D_multiply_elements.fn.kp D_multiply_elements.b .nil (L2N.passes_call (L2N.takes_of rfl rfl rfl rfl) (fun _ _ _ _ z => z)) (pa_cons (pv 4) (pa_cons (pe_call G_multiply_elements (hr.mono hk_multiply_elements) rfl D_multiply_elements.m D_multiply_elements.fn.kp D_multiply_elements.b .nil (L2N.passes_call (L2N.takes_of rfl rfl rfl rfl) (fun _ _ _ _ z => z)) (pa_cons (pv 5) (pa_cons (pv 6) pa_nil))) pa_nil))) (nomark _)) (pw_or1 (pt_not (pt_val (pe_call G__law_good (hr.mono hk__law_good) rfl D__law_good.m D__law_good.fn.kp D__law_good.b .nil pass0 (pa_cons (pv 1) pa_nil))))))) (pss_one (ps_ret pe_bl)) pss_nil)
      (pss_cons (ps_for (passes_of rfl) rfl (pi_list (pv 0)) (pg_name (i := 2) nd rfl (.inl rfl)) (pss_cons (ps_set (i := 7) nd rfl (.inl rfl) (pe_call G_inverse_element (hr.mono hk_inverse_element) rfl D_inverse_element.m D_inverse_element.fn.kp D_inverse_element.b .nil (L2N.passes_call (L2N.takes_of rfl rfl rfl rfl) (fun _ _ _ _ z => z)) (pa_cons (pv 2) pa_nil)))
      (pss_one (ps_if (PW.pt (pw_or (pt_cmpR (op_neN (hu150 hr)) (pe_call G_multiply_elements (hr.mono hk_multiply_elements) rfl D_multiply_elements.m D_multiply_elements.fn.kp D_multiply_elements.b .nil (L2N.passes_call (L2N.takes_of rfl rfl rfl rfl) (fun _ _ _ _ z => z)) (pa_cons (pv 2) (pa_cons (pv 7) pa_nil))) (pe_glob rfl m_UNIT rfl) (nomark _)) (pw_or (pt_cmpR (op_neN (hu150 hr)) (pe_call G_multiply_elements (hr.mono hk_multiply_elements) rfl D_multiply_elements.m D_multiply_elements.fn.kp D_multiply_elements.b .nil (L2N.passes_call (L2N.takes_of rfl rfl rfl rfl) (fun _ _ _ _ z => z)) (pa_cons (pv 7) (pa_cons (pv 2) pa_nil))) (pe_glob rfl m_UNIT rfl) (nomark _)) (pw_or1 (pt_not (pt_val (pe_call G__law_good (hr.mono hk__law_good) rfl D__law_good.m D__law_good.fn.kp D__law_good.b .nil pass0 (pa_cons (pv 7) pa_nil)))))))) (pss_one (ps_ret pe_bl)) pss_nil))))
      (pss_cons (ps_set (i := 3) nd rfl (.inl rfl) (pe_call G_inverse_element (hr.mono hk_inverse_element) rfl D_inverse_element.m D_inverse_element.fn.kp D_inverse_element.b .nil (L2N.passes_call (L2N.takes_of rfl rfl rfl rfl) (fun _ _ _ _ z => z)) (pa_cons (pe_call G_multiply_elements (hr.mono hk_multiply_elements) rfl D_multiply_elements.m D_multiply_elements.fn.kp D_multiply_elements.b .nil (L2N.passes_call (L2N.takes_of rfl rfl rfl rfl) (fun _ _ _ _ z => z)) (pa_cons (pv 4) (pa_cons (pv 5) pa_nil))) pa_nil)))
      (pss_one (ps_ret (pe_cmpR (op_eqN (hu150 hr)) (pv 3) (pe_call G_multiply_elements (hr.mono hk_multiply_elements) rfl D_multiply_elements.m D_multiply_elements.fn.kp D_multiply_elements.b .nil (L2N.passes_call (L2N.takes_of rfl rfl rfl rfl) (fun _ _ _ _ z => z)) (pa_cons (pe_call G_inverse_element (hr.mono hk_inverse_element) rfl D_inverse_element.m D_inverse_element.fn.kp D_inverse_element.b .nil (L2N.passes_call (L2N.takes_of rfl rfl rfl rfl) (fun _ _ _ _ z => z)) (pa_cons (pv 5) pa_nil)) (pa_cons (pe_call G_inverse_element (hr.mono hk_inverse_element) rfl D_inverse_element.m D_inverse_element.fn.kp D_inverse_element.b .nil (L2N.passes_call (L2N.takes_of rfl rfl rfl rfl) (fun _ _ _ _ z => z)) (pa_cons (pv 4) pa_nil)) pa_nil))) (nomark _)))))))))
theorem ok_law {f : Addr} {fd : FuncData} {k : Nat} (D : DefAt K mg "law" s_law ["script"] f fd) {a_TooLarge : Addr} (C_TooLarge : ClsAt K mg "TooLarge" a_TooLarge) {f__law_numbers : Addr} {fd__law_numbers : FuncData} {k__law_numbers : Nat} (D__law_numbers : DefAt K mg "_law_numbers" s_law_numbers44 ["script", "many"] f__law_numbers fd__law_numbers) (G__law_numbers : FnOk P w K mg base CX0 k__law_numbers f__law_numbers fd__law_numbers ["script", "many"] (sp_law_numbers44 K)) (hk__law_numbers : k__law_numbers ≤ k) {f__law_agrees : Addr} {fd__law_agrees : FuncData} {k__law_agrees : Nat} (D__law_agrees : DefAt K mg "_law_agrees" s_law_agrees46 ["rows"] f__law_agrees fd__law_agrees) (G__law_agrees : FnOk P w K mg base (L2N.CX P w) k__law_agrees f__law_agrees fd__law_agrees ["rows"] (sp_law_agrees46 K a_TooLarge)) (hk__law_agrees : k__law_agrees ≤ k) {f__law_low : Addr} {fd__law_low : FuncData} {k__law_low : Nat} (D__law_low : DefAt K mg "_law_low" s_law_low46 ["numbers"] f__law_low fd__law_low) (G__law_low : FnOk P w K mg base CX0 k__law_low f__law_low fd__law_low ["numbers"] (sp_law_low46 K)) (hk__law_low : k__law_low ≤ k) {f__law_drawn : Addr} {fd__law_drawn : FuncData} {k__law_drawn : Nat} (D__law_drawn : DefAt K mg "_law_drawn" s_law_drawn46 ["numbers"] f__law_drawn fd__law_drawn) (G__law_drawn : FnOk P w K mg base CX0 k__law_drawn f__law_drawn fd__law_drawn ["numbers"] (sp_law_drawn46 K)) (hk__law_drawn : k__law_drawn ≤ k) {f__law_refused : Addr} {fd__law_refused : FuncData} {k__law_refused : Nat} (D__law_refused : DefAt K mg "_law_refused" s_law_refused46 [] f__law_refused fd__law_refused) (G__law_refused : FnOk P w K mg base CX0 k__law_refused f__law_refused fd__law_refused [] (sp_law_refused46 K)) (hk__law_refused : k__law_refused ≤ k) {kh__law_drawn : Nat} (GH__law_drawn : L2H.FnH P w K mg base CX0 kh__law_drawn f__law_drawn fd__law_drawn ["numbers"] (sp_law_drawn46 K)) (hkh__law_drawn : kh__law_drawn ≤ k) (b_range : mg "range" = none) (hx2 : PySem.W.exmOne K (.ref a_TooLarge) (.ref a_TooLarge) = some true) : FnOk P w K mg base CX0 (k + 1) f fd ["script"] (sp_law K) := by
  have nd := sc_law.nd
  refine D.fn.ok sc_law (fun vs H Q E h => spF1.len h) (fun cdv A outer s H vs Q E hr h => ⟨t_law K a_TooLarge, ?_, pure_law hx2 h⟩)
  exact (pss_cons (ps_set (i := 1) nd rfl (.inr rfl) (pe_call G__law_numbers (hr.mono hk__law_numbers) rfl D__law_numbers.m D__law_numbers.fn.kp D__law_numbers.b .nil pass0 (pa_cons (pv 0) (pa_cons pe_int pa_nil))))
      (pss_cons (ps_if (pt_not (pt_val (pe_call G__law_agrees (hr.mono hk__law_agrees) rfl D__law_agrees.m D__law_agrees.fn.kp D__law_agrees.b .nil passLN (pa_cons (pe_lc (own := [("k", 3)]) (g := (gName 3)) (tt := tYes) (te := (tCall (sp_law_low46 K) [] E0 (tCons (tSl (rSlL K) (tVar 1) (tPart (tOp xAdd (tOp xMul (tC (.int 14)) (tVar 3)) (tC (.int 3)))) (tPart (tOp xAdd (tOp xMul (tC (.int 14)) (tVar 3)) (tC (.int 14))))) tNil))) rfl nd (pi_range1 rfl b_range (pa_cons pe_int pa_nil)) (blkOk_by (own := [("k", 3)]) (N := N_law) (sc := defScope s_law) (by decide +kernel)) (fun _ _ _ _ _ => (pg_name (i := 3) nd rfl (.inl rfl))) (fun _ _ _ _ _ => pts_nil) (fun _ _ _ _ _ => (pe_call G__law_low (hr.mono hk__law_low) rfl D__law_low.m D__law_low.fn.kp D__law_low.b .nil pass0 (pa_cons (pe_slice sl_list (pv 1) (po_some (pe_op op_add (pe_op op_mul pe_int (pv 3)) pe_int)) (po_some (pe_op op_add (pe_op op_mul pe_int (pv 3)) pe_int))) pa_nil)))) pa_nil)))) (pss_one (ps_ret pe_bl)) pss_nil)
      (pss_cons (ps_setLc (i := 2) (own := [("k", 3)]) (g := (gName 3)) (tt := tYes) (te := (tCall (sp_law_drawn46 K) [] E0 (tCons (tSl (rSlL K) (tVar 1) (tPart (tOp xMul (tC (.int 14)) (tVar 3))) (tPart (tOp xAdd (tOp xMul (tC (.int 14)) (tVar 3)) (tC (.int 14))))) tNil))) rfl nd rfl rfl (sw_true rfl rfl rfl (by decide +kernel)) (pi_range1 rfl b_range (pa_cons pe_int pa_nil)) (blkOk_by (own := [("k", 3)]) (N := N_law) (sc := defScope s_law) (by decide +kernel)) (fun _ _ _ _ _ => (pg_name (i := 3) nd rfl (.inl rfl))) (fun _ _ _ _ _ => pts_nil) (fun _ _ _ _ _ => (pe_call G__law_drawn (hr.mono hk__law_drawn) rfl D__law_drawn.m D__law_drawn.fn.kp D__law_drawn.b .nil pass0 (pa_cons (pe_slice sl_list (pv 1) (po_some (pe_op op_mul pe_int (pv 3))) (po_some (pe_op op_add (pe_op op_mul pe_int (pv 3)) pe_int))) pa_nil))))
      (pss_cons (ps_tries rfl rfl (tb := fun W => (tIfS (tNot (tB (tCallS (sp_law_agrees46 K a_TooLarge) (WE W) (tCons (tVar 2) tNil)))) (tRet (tC (.bl false))) tNext)) (fun W pn xe tk hpo => (pss_one (ps_if (pt_not (pt_val (pe_callS G__law_agrees (hr.mono hk__law_agrees) rfl D__law_agrees.m D__law_agrees.fn.kp D__law_agrees.b (fun σ => L2N.passAt tk σ) (pa_cons (pv 2) pa_nil)))) (pss_one (ps_ret pe_bl)) pss_nil))) (catch_only rfl rfl ⟨rfl, by decide, .inl C_TooLarge.m⟩ (ts := fun a cls d => (tRet (tOp (rEqN K) (tCall (sp_law_drawn46 K) [] E0 (tCons (tSl (rSlL K) (tVar 1) tNoPart (tPart (tC (.int 14)))) tNil)) (tOp (rIxL K) (tVar 2) (tC (.int 0)))))) (fun a oe cls d pn hz hf => (pss_one (ps_ret (pe_cmpR (op_eqN (hu150S hr)) (pe_callHot GH__law_drawn (room_suite (hr.mono hkh__law_drawn) _) (hotC_suite hz hf) rfl D__law_drawn.m D__law_drawn.fn.kp D__law_drawn.b (pa_cons (pe_slice sl_list (pv 1) po_none (po_some pe_int)) pa_nil)) (pe_ix ix_list (pv 2) pe_int (fun _ _ => rfl)) (nomark _))))) (catch_nil rfl rfl takes0N)))
      (pss_one (ps_ret (pe_call0 G__law_refused (hr.mono hk__law_refused) rfl D__law_refused.m D__law_refused.fn.kp D__law_refused.b .nil pass0)))))))
theorem all_bare_number {f : Addr} {fd : FuncData} (D : DefAt K mg "bare_number" s_bare_number ["value"] f fd) {f_signed_places : Addr} {fd_signed_places : FuncData} (D_signed_places : DefAt K mg "signed_places" s_signed_places ["value"] f_signed_places fd_signed_places) (G_signed_places : FnOk P w K mg base CX0 1 f_signed_places fd_signed_places ["value"] (sp_signed_places K)) (b_tuple : mg "tuple" = none) {t_FIRST_END : Tok} (m_FIRST_END : mg "FIRST_END" = some (.int 8 t_FIRST_END)) {a_FIRST_NUMBERS : Addr} (m_FIRST_NUMBERS : mg "FIRST_NUMBERS" = some (.ref a_FIRST_NUMBERS)) (d_FIRST_NUMBERS : FirstAt K a_FIRST_NUMBERS) : ∀ d, FnOk P w K mg base CX0 (d + 1) f fd ["value"] (sp_bare_number K d)
  | 0 => fn_vac fun vs H Q E h => vac_bare_number h
  | d + 1 => ok_bare_number (k := d + 1) D  D_signed_places G_signed_places (by omega) b_tuple m_FIRST_END m_FIRST_NUMBERS d_FIRST_NUMBERS (all_bare_number D  D_signed_places G_signed_places b_tuple m_FIRST_END m_FIRST_NUMBERS d_FIRST_NUMBERS d)
theorem allh_bare_number {f : Addr} {fd : FuncData} (D : DefAt K mg "bare_number" s_bare_number ["value"] f fd) {f_signed_places : Addr} {fd_signed_places : FuncData} (D_signed_places : DefAt K mg "signed_places" s_signed_places ["value"] f_signed_places fd_signed_places) (GH_signed_places : L2H.FnH P w K mg base CX0 1 f_signed_places fd_signed_places ["value"] (sp_signed_places K)) (b_tuple : mg "tuple" = none) {t_FIRST_END : Tok} (m_FIRST_END : mg "FIRST_END" = some (.int 8 t_FIRST_END)) {a_FIRST_NUMBERS : Addr} (m_FIRST_NUMBERS : mg "FIRST_NUMBERS" = some (.ref a_FIRST_NUMBERS)) (d_FIRST_NUMBERS : FirstAt K a_FIRST_NUMBERS) : ∀ d, L2H.FnH P w K mg base CX0 (d + 1) f fd ["value"] (sp_bare_number K d)
  | 0 => fnH_vac fun vs H Q E h => vac_bare_number h
  | d + 1 => okh_bare_number (k := d + 1) D D_signed_places GH_signed_places (by omega) b_tuple m_FIRST_END m_FIRST_NUMBERS d_FIRST_NUMBERS (allh_bare_number D D_signed_places GH_signed_places b_tuple m_FIRST_END m_FIRST_NUMBERS d_FIRST_NUMBERS d)
theorem all_value_within {f : Addr} {fd : FuncData} (D : DefAt K mg "value_within" s_value_within ["number", "bits"] f fd) {t_FIRST_END : Tok} (m_FIRST_END : mg "FIRST_END" = some (.int 8 t_FIRST_END)) {a_FIRST_NUMBERS : Addr} (m_FIRST_NUMBERS : mg "FIRST_NUMBERS" = some (.ref a_FIRST_NUMBERS)) (d_FIRST_NUMBERS : FirstAt K a_FIRST_NUMBERS) : ∀ d, FnOk P w K mg base CX0 (d + 0) f fd ["number", "bits"] (sp_value_within K d)
  | 0 => fn_vac fun vs H Q E h => vac_value_within h
  | d + 1 => ok_value_within (k := d + 0) D    m_FIRST_END m_FIRST_NUMBERS d_FIRST_NUMBERS (all_value_within D    m_FIRST_END m_FIRST_NUMBERS d_FIRST_NUMBERS d)
theorem allh_value_within {f : Addr} {fd : FuncData} (D : DefAt K mg "value_within" s_value_within ["number", "bits"] f fd) {t_FIRST_END : Tok} (m_FIRST_END : mg "FIRST_END" = some (.int 8 t_FIRST_END)) {a_FIRST_NUMBERS : Addr} (m_FIRST_NUMBERS : mg "FIRST_NUMBERS" = some (.ref a_FIRST_NUMBERS)) (d_FIRST_NUMBERS : FirstAt K a_FIRST_NUMBERS) : ∀ d, L2H.FnH P w K mg base CX0 (d + 0) f fd ["number", "bits"] (sp_value_within K d)
  | 0 => fnH_vac fun vs H Q E h => vac_value_within h
  | d + 1 => okh_value_within (k := d + 0) D   m_FIRST_END m_FIRST_NUMBERS d_FIRST_NUMBERS (allh_value_within D   m_FIRST_END m_FIRST_NUMBERS d_FIRST_NUMBERS d)
theorem all_has_form {f : Addr} {fd : FuncData} (D : DefAt K mg "has_form" s_has_form ["number"] f fd) {f_sign_of : Addr} {fd_sign_of : FuncData} (D_sign_of : DefAt K mg "sign_of" s_sign_of ["number"] f_sign_of fd_sign_of) (G_sign_of : FnOk P w K mg base CX0 1 f_sign_of fd_sign_of ["number"] (sp_sign_of K)) {f_are_apart : Addr} {fd_are_apart : FuncData} (D_are_apart : DefAt K mg "are_apart" s_are_apart ["upper", "lower"] f_are_apart fd_are_apart) (G_are_apart : FnOk P w K mg base CX0 47 f_are_apart fd_are_apart ["upper", "lower"] (sp_are_apart K)) (b_all : mg "all" = none) (b_zip : mg "zip" = none) : ∀ d, FnOk P w K mg base CX0 (d + 47) f fd ["number"] (sp_has_form K d)
  | 0 => fn_vac fun vs H Q E h => vac_has_form h
  | d + 1 => ok_has_form (k := d + 47) D  D_sign_of G_sign_of (by omega) D_are_apart G_are_apart (by omega) b_all b_zip  (all_has_form D  D_sign_of G_sign_of D_are_apart G_are_apart b_all b_zip  d)
theorem all_sum_of_two {f : Addr} {fd : FuncData} (D : DefAt K mg "sum_of_two" s_sum_of_two ["u", "v", "x", "y"] f fd) {f_order : Addr} {fd_order : FuncData} (D_order : DefAt K mg "order" s_order ["first", "second"] f_order fd_order) (G_order : FnOk P w K mg base CX0 1 f_order fd_order ["first", "second"] (sp_order K)) {f_plus : Addr} {fd_plus : FuncData} (D_plus : DefAt K mg "plus" s_plus ["first", "second"] f_plus fd_plus) (G_plus : FnOk P w K mg base CX0 49 f_plus fd_plus ["first", "second"] (sp_plus K)) {f_bare_shift : Addr} {fd_bare_shift : FuncData} (D_bare_shift : DefAt K mg "bare_shift" s_bare_shift ["terms", "places"] f_bare_shift fd_bare_shift) (G_bare_shift : FnOk P w K mg base CX0 50 f_bare_shift fd_bare_shift ["terms", "places"] (sp_bare_shift K)) {f_negate : Addr} {fd_negate : FuncData} (D_negate : DefAt K mg "negate" s_negate ["number"] f_negate fd_negate) (G_negate : FnOk P w K mg base CX0 1 f_negate fd_negate ["number"] (sp_negate K)) : ∀ d, FnOk P w K mg base CX0 (d + 50) f fd ["u", "v", "x", "y"] (sp_sum_of_two K d)
  | 0 => fn_vac fun vs H Q E h => vac_sum_of_two h
  | d + 1 => ok_sum_of_two (k := d + 50) D  D_order G_order (by omega) D_plus G_plus (by omega) D_bare_shift G_bare_shift (by omega) D_negate G_negate (by omega)   (all_sum_of_two D  D_order G_order D_plus G_plus D_bare_shift G_bare_shift D_negate G_negate   d)
end
theorem all_mk {l : PySem.W.OpenLaw} {w : World} {K : PySem.W.Frag} {h : Heap} {mg : Str → Option Value} {fa : Addr} {f_signed_places : Addr} {od_signed_places an_signed_places : Option Addr} {sl_signed_places : Array (Option Value)} {oc_signed_places kV_signed_places dc_signed_places pm_signed_places cd_signed_places ct_signed_places : Value} {f_bare_number : Addr} {od_bare_number an_bare_number : Option Addr} {sl_bare_number : Array (Option Value)} {oc_bare_number kV_bare_number dc_bare_number pm_bare_number cd_bare_number ct_bare_number : Value} {f_value_within : Addr} {od_value_within an_value_within : Option Addr} {sl_value_within : Array (Option Value)} {oc_value_within kV_value_within dc_value_within pm_value_within cd_value_within ct_value_within : Value} {f_plus_small : Addr} {od_plus_small an_plus_small : Option Addr} {sl_plus_small : Array (Option Value)} {oc_plus_small kV_plus_small dc_plus_small pm_plus_small cd_plus_small ct_plus_small : Value} {f_order : Addr} {od_order an_order : Option Addr} {sl_order : Array (Option Value)} {oc_order kV_order dc_order pm_order cd_order ct_order : Value} {f_gap : Addr} {od_gap an_gap : Option Addr} {sl_gap : Array (Option Value)} {oc_gap kV_gap dc_gap pm_gap cd_gap ct_gap : Value} {f_terms_at : Addr} {od_terms_at an_terms_at : Option Addr} {sl_terms_at : Array (Option Value)} {oc_terms_at kV_terms_at dc_terms_at pm_terms_at cd_terms_at ct_terms_at : Value} {f_settled : Addr} {od_settled an_settled : Option Addr} {sl_settled : Array (Option Value)} {oc_settled kV_settled dc_settled pm_settled cd_settled ct_settled : Value} {f_plus : Addr} {od_plus an_plus : Option Addr} {sl_plus : Array (Option Value)} {oc_plus kV_plus dc_plus pm_plus cd_plus ct_plus : Value} {f_index_in : Addr} {od_index_in an_index_in : Option Addr} {sl_index_in : Array (Option Value)} {oc_index_in kV_index_in dc_index_in pm_index_in cd_index_in ct_index_in : Value} {f_bare_sum : Addr} {od_bare_sum an_bare_sum : Option Addr} {sl_bare_sum : Array (Option Value)} {oc_bare_sum kV_bare_sum dc_bare_sum pm_bare_sum cd_bare_sum ct_bare_sum : Value} {f_bare_shift : Addr} {od_bare_shift an_bare_shift : Option Addr} {sl_bare_shift : Array (Option Value)} {oc_bare_shift kV_bare_shift dc_bare_shift pm_bare_shift cd_bare_shift ct_bare_shift : Value} {f_levels : Addr} {od_levels an_levels : Option Addr} {sl_levels : Array (Option Value)} {oc_levels kV_levels dc_levels pm_levels cd_levels ct_levels : Value} {f_is_allowed : Addr} {od_is_allowed an_is_allowed : Option Addr} {sl_is_allowed : Array (Option Value)} {oc_is_allowed kV_is_allowed dc_is_allowed pm_is_allowed cd_is_allowed ct_is_allowed : Value} {f_allowed : Addr} {od_allowed an_allowed : Option Addr} {sl_allowed : Array (Option Value)} {oc_allowed kV_allowed dc_allowed pm_allowed cd_allowed ct_allowed : Value} {f_sign_of : Addr} {od_sign_of an_sign_of : Option Addr} {sl_sign_of : Array (Option Value)} {oc_sign_of kV_sign_of dc_sign_of pm_sign_of cd_sign_of ct_sign_of : Value} {f_compare : Addr} {od_compare an_compare : Option Addr} {sl_compare : Array (Option Value)} {oc_compare kV_compare dc_compare pm_compare cd_compare ct_compare : Value} {f_are_apart : Addr} {od_are_apart an_are_apart : Option Addr} {sl_are_apart : Array (Option Value)} {oc_are_apart kV_are_apart dc_are_apart pm_are_apart cd_are_apart ct_are_apart : Value} {f_has_form : Addr} {od_has_form an_has_form : Option Addr} {sl_has_form : Array (Option Value)} {oc_has_form kV_has_form dc_has_form pm_has_form cd_has_form ct_has_form : Value} {f_check_number : Addr} {od_check_number an_check_number : Option Addr} {sl_check_number : Array (Option Value)} {oc_check_number kV_check_number dc_check_number pm_check_number cd_check_number ct_check_number : Value} {f_of_int : Addr} {od_of_int an_of_int : Option Addr} {sl_of_int : Array (Option Value)} {oc_of_int kV_of_int dc_of_int pm_of_int cd_of_int ct_of_int : Value} {f_negate : Addr} {od_negate an_negate : Option Addr} {sl_negate : Array (Option Value)} {oc_negate kV_negate dc_negate pm_negate cd_negate ct_negate : Value} {f_add : Addr} {od_add an_add : Option Addr} {sl_add : Array (Option Value)} {oc_add kV_add dc_add pm_add cd_add ct_add : Value} {f_sum_terms : Addr} {od_sum_terms an_sum_terms : Option Addr} {sl_sum_terms : Array (Option Value)} {oc_sum_terms kV_sum_terms dc_sum_terms pm_sum_terms cd_sum_terms ct_sum_terms : Value} {f_bare_plain : Addr} {od_bare_plain an_bare_plain : Option Addr} {sl_bare_plain : Array (Option Value)} {oc_bare_plain kV_bare_plain dc_bare_plain pm_bare_plain cd_bare_plain ct_bare_plain : Value} {f_sum_of_two : Addr} {od_sum_of_two an_sum_of_two : Option Addr} {sl_sum_of_two : Array (Option Value)} {oc_sum_of_two kV_sum_of_two dc_sum_of_two pm_sum_of_two cd_sum_of_two ct_sum_of_two : Value} {f_bare_product : Addr} {od_bare_product an_bare_product : Option Addr} {sl_bare_product : Array (Option Value)} {oc_bare_product kV_bare_product dc_bare_product pm_bare_product cd_bare_product ct_bare_product : Value} {f_bare_inverse : Addr} {od_bare_inverse an_bare_inverse : Option Addr} {sl_bare_inverse : Array (Option Value)} {oc_bare_inverse kV_bare_inverse dc_bare_inverse pm_bare_inverse cd_bare_inverse ct_bare_inverse : Value} {f_allowed_el : Addr} {od_allowed_el an_allowed_el : Option Addr} {sl_allowed_el : Array (Option Value)} {oc_allowed_el kV_allowed_el dc_allowed_el pm_allowed_el cd_allowed_el ct_allowed_el : Value} {f_is_plain : Addr} {od_is_plain an_is_plain : Option Addr} {sl_is_plain : Array (Option Value)} {oc_is_plain kV_is_plain dc_is_plain pm_is_plain cd_is_plain ct_is_plain : Value} {f_plain_elX : Addr} {od_plain_elX an_plain_elX : Option Addr} {sl_plain_elX : Array (Option Value)} {oc_plain_elX kV_plain_elX dc_plain_elX pm_plain_elX cd_plain_elX ct_plain_elX : Value} {f_mul_el : Addr} {od_mul_el an_mul_el : Option Addr} {sl_mul_el : Array (Option Value)} {oc_mul_el kV_mul_el dc_mul_el pm_mul_el cd_mul_el ct_mul_el : Value} {f_inv_el : Addr} {od_inv_el an_inv_el : Option Addr} {sl_inv_el : Array (Option Value)} {oc_inv_el kV_inv_el dc_inv_el pm_inv_el cd_inv_el ct_inv_el : Value} {f_law_numbers44 : Addr} {od_law_numbers44 an_law_numbers44 : Option Addr} {sl_law_numbers44 : Array (Option Value)} {oc_law_numbers44 kV_law_numbers44 dc_law_numbers44 pm_law_numbers44 cd_law_numbers44 ct_law_numbers44 : Value} {f_law_tower46 : Addr} {od_law_tower46 an_law_tower46 : Option Addr} {sl_law_tower46 : Array (Option Value)} {oc_law_tower46 kV_law_tower46 dc_law_tower46 pm_law_tower46 cd_law_tower46 ct_law_tower46 : Value} {f_law_drawn46 : Addr} {od_law_drawn46 an_law_drawn46 : Option Addr} {sl_law_drawn46 : Array (Option Value)} {oc_law_drawn46 kV_law_drawn46 dc_law_drawn46 pm_law_drawn46 cd_law_drawn46 ct_law_drawn46 : Value} {f_law_low46 : Addr} {od_law_low46 an_law_low46 : Option Addr} {sl_law_low46 : Array (Option Value)} {oc_law_low46 kV_law_low46 dc_law_low46 pm_law_low46 cd_law_low46 ct_law_low46 : Value} {f_law_good46 : Addr} {od_law_good46 an_law_good46 : Option Addr} {sl_law_good46 : Array (Option Value)} {oc_law_good46 kV_law_good46 dc_law_good46 pm_law_good46 cd_law_good46 ct_law_good46 : Value} {f_law_wide46 : Addr} {od_law_wide46 an_law_wide46 : Option Addr} {sl_law_wide46 : Array (Option Value)} {oc_law_wide46 kV_law_wide46 dc_law_wide46 pm_law_wide46 cd_law_wide46 ct_law_wide46 : Value} {f_law_told46 : Addr} {od_law_told46 an_law_told46 : Option Addr} {sl_law_told46 : Array (Option Value)} {oc_law_told46 kV_law_told46 dc_law_told46 pm_law_told46 cd_law_told46 ct_law_told46 : Value} {f_law_refused46 : Addr} {od_law_refused46 an_law_refused46 : Option Addr} {sl_law_refused46 : Array (Option Value)} {oc_law_refused46 kV_law_refused46 dc_law_refused46 pm_law_refused46 cd_law_refused46 ct_law_refused46 : Value} {f_law_agrees46 : Addr} {od_law_agrees46 an_law_agrees46 : Option Addr} {sl_law_agrees46 : Array (Option Value)} {oc_law_agrees46 kV_law_agrees46 dc_law_agrees46 pm_law_agrees46 cd_law_agrees46 ct_law_agrees46 : Value} {f_law : Addr} {od_law an_law : Option Addr} {sl_law : Array (Option Value)} {oc_law kV_law dc_law pm_law cd_law ct_law : Value} {a_NotAllowed : Addr} {a_ReckonError : Addr} {a_TooLarge : Addr} {f_c_ReckonError T_c_ReckonError : Addr} {od_c_ReckonError od2_c_ReckonError an_c_ReckonError : Option Addr} {sl_c_ReckonError sl2_c_ReckonError : Array (Option Value)} {oc_c_ReckonError oc2_c_ReckonError kV_c_ReckonError dc_c_ReckonError pm_c_ReckonError cd_c_ReckonError ct_c_ReckonError : Value} {n_c_ReckonError : Nat} {tk_c_ReckonError tk2_c_ReckonError : Tok} {f_c_NotAllowed T_c_NotAllowed : Addr} {od_c_NotAllowed od2_c_NotAllowed an_c_NotAllowed : Option Addr} {sl_c_NotAllowed sl2_c_NotAllowed : Array (Option Value)} {oc_c_NotAllowed oc2_c_NotAllowed kV_c_NotAllowed dc_c_NotAllowed pm_c_NotAllowed cd_c_NotAllowed ct_c_NotAllowed : Value} {n_c_NotAllowed : Nat} {tk_c_NotAllowed  : Tok} {q_NotAllowed : Str} {N_NotAllowed : Addr} {bs_NotAllowed bm_NotAllowed sub_NotAllowed : List Value} {sn_NotAllowed : List Str} {ab_NotAllowed : Bool} {col_NotAllowed : Option Bool} {dd_NotAllowed : Option Addr} {k0_NotAllowed k1_NotAllowed k2_NotAllowed k3_NotAllowed k5_NotAllowed : Option Value} {f_c_TooLarge T_c_TooLarge : Addr} {od_c_TooLarge od2_c_TooLarge an_c_TooLarge : Option Addr} {sl_c_TooLarge sl2_c_TooLarge : Array (Option Value)} {oc_c_TooLarge oc2_c_TooLarge kV_c_TooLarge dc_c_TooLarge pm_c_TooLarge cd_c_TooLarge ct_c_TooLarge : Value} {n_c_TooLarge : Nat} {tk_c_TooLarge  : Tok} {q_TooLarge : Str} {N_TooLarge : Addr} {bs_TooLarge bm_TooLarge sub_TooLarge : List Value} {sn_TooLarge : List Str} {ab_TooLarge : Bool} {col_TooLarge : Option Bool} {dd_TooLarge : Option Addr} {k0_TooLarge k1_TooLarge k2_TooLarge k3_TooLarge k5_TooLarge : Option Value} {t_FIRST_END : Tok} {t_INTEGER_BITS : Tok} {t_MAX_GIVEN_BITS : Tok} {t_MAX_HEIGHT : Tok} {t_MAX_SIZE : Tok} {t_MAX_TERMS : Tok} {t_NEAR_BITS : Tok} {t_PLACE_BITS : Tok} {a_FIRST_NUMBERS : Addr} {a_UNIT : Addr} (X : K.In h) (G : h.Ns mainGlobals mg) (hfa : mg "law" = some (.ref fa))
    (a_signed_places : PySem.W.nsIn K mainGlobals "signed_places" = some (some (.ref f_signed_places)))
    (l_signed_places : K.lookup f_signed_places = some ⟨oc_signed_places, od_signed_places, .func (PySem.W.fnOf "signed_places" "signed_places" (defArgs s_signed_places) (defBody s_signed_places) (defScope s_signed_places) .none kV_signed_places dc_signed_places pm_signed_places an_signed_places cd_signed_places ct_signed_places), sl_signed_places⟩)
    (c_signed_places : PySem.W.codeIn K cd_signed_places "signed_places" = true)
    (k_signed_places : PySem.W.keepIn K (.ref f_signed_places) = true)
    (a_bare_number : PySem.W.nsIn K mainGlobals "bare_number" = some (some (.ref f_bare_number)))
    (l_bare_number : K.lookup f_bare_number = some ⟨oc_bare_number, od_bare_number, .func (PySem.W.fnOf "bare_number" "bare_number" (defArgs s_bare_number) (defBody s_bare_number) (defScope s_bare_number) .none kV_bare_number dc_bare_number pm_bare_number an_bare_number cd_bare_number ct_bare_number), sl_bare_number⟩)
    (c_bare_number : PySem.W.codeIn K cd_bare_number "bare_number" = true)
    (k_bare_number : PySem.W.keepIn K (.ref f_bare_number) = true)
    (a_value_within : PySem.W.nsIn K mainGlobals "value_within" = some (some (.ref f_value_within)))
    (l_value_within : K.lookup f_value_within = some ⟨oc_value_within, od_value_within, .func (PySem.W.fnOf "value_within" "value_within" (defArgs s_value_within) (defBody s_value_within) (defScope s_value_within) .none kV_value_within dc_value_within pm_value_within an_value_within cd_value_within ct_value_within), sl_value_within⟩)
    (c_value_within : PySem.W.codeIn K cd_value_within "value_within" = true)
    (k_value_within : PySem.W.keepIn K (.ref f_value_within) = true)
    (a_plus_small : PySem.W.nsIn K mainGlobals "plus_small" = some (some (.ref f_plus_small)))
    (l_plus_small : K.lookup f_plus_small = some ⟨oc_plus_small, od_plus_small, .func (PySem.W.fnOf "plus_small" "plus_small" (defArgs s_plus_small) (defBody s_plus_small) (defScope s_plus_small) .none kV_plus_small dc_plus_small pm_plus_small an_plus_small cd_plus_small ct_plus_small), sl_plus_small⟩)
    (c_plus_small : PySem.W.codeIn K cd_plus_small "plus_small" = true)
    (k_plus_small : PySem.W.keepIn K (.ref f_plus_small) = true)
    (a_order : PySem.W.nsIn K mainGlobals "order" = some (some (.ref f_order)))
    (l_order : K.lookup f_order = some ⟨oc_order, od_order, .func (PySem.W.fnOf "order" "order" (defArgs s_order) (defBody s_order) (defScope s_order) .none kV_order dc_order pm_order an_order cd_order ct_order), sl_order⟩)
    (c_order : PySem.W.codeIn K cd_order "order" = true)
    (k_order : PySem.W.keepIn K (.ref f_order) = true)
    (a_gap : PySem.W.nsIn K mainGlobals "gap" = some (some (.ref f_gap)))
    (l_gap : K.lookup f_gap = some ⟨oc_gap, od_gap, .func (PySem.W.fnOf "gap" "gap" (defArgs s_gap) (defBody s_gap) (defScope s_gap) .none kV_gap dc_gap pm_gap an_gap cd_gap ct_gap), sl_gap⟩)
    (c_gap : PySem.W.codeIn K cd_gap "gap" = true)
    (k_gap : PySem.W.keepIn K (.ref f_gap) = true)
    (a_terms_at : PySem.W.nsIn K mainGlobals "terms_at" = some (some (.ref f_terms_at)))
    (l_terms_at : K.lookup f_terms_at = some ⟨oc_terms_at, od_terms_at, .func (PySem.W.fnOf "terms_at" "terms_at" (defArgs s_terms_at) (defBody s_terms_at) (defScope s_terms_at) .none kV_terms_at dc_terms_at pm_terms_at an_terms_at cd_terms_at ct_terms_at), sl_terms_at⟩)
    (c_terms_at : PySem.W.codeIn K cd_terms_at "terms_at" = true)
    (k_terms_at : PySem.W.keepIn K (.ref f_terms_at) = true)
    (a_settled : PySem.W.nsIn K mainGlobals "settled" = some (some (.ref f_settled)))
    (l_settled : K.lookup f_settled = some ⟨oc_settled, od_settled, .func (PySem.W.fnOf "settled" "settled" (defArgs s_settled) (defBody s_settled) (defScope s_settled) .none kV_settled dc_settled pm_settled an_settled cd_settled ct_settled), sl_settled⟩)
    (c_settled : PySem.W.codeIn K cd_settled "settled" = true)
    (k_settled : PySem.W.keepIn K (.ref f_settled) = true)
    (a_plus : PySem.W.nsIn K mainGlobals "plus" = some (some (.ref f_plus)))
    (l_plus : K.lookup f_plus = some ⟨oc_plus, od_plus, .func (PySem.W.fnOf "plus" "plus" (defArgs s_plus) (defBody s_plus) (defScope s_plus) .none kV_plus dc_plus pm_plus an_plus cd_plus ct_plus), sl_plus⟩)
    (c_plus : PySem.W.codeIn K cd_plus "plus" = true)
    (k_plus : PySem.W.keepIn K (.ref f_plus) = true)
    (a_index_in : PySem.W.nsIn K mainGlobals "index_in" = some (some (.ref f_index_in)))
    (l_index_in : K.lookup f_index_in = some ⟨oc_index_in, od_index_in, .func (PySem.W.fnOf "index_in" "index_in" (defArgs s_index_in) (defBody s_index_in) (defScope s_index_in) .none kV_index_in dc_index_in pm_index_in an_index_in cd_index_in ct_index_in), sl_index_in⟩)
    (c_index_in : PySem.W.codeIn K cd_index_in "index_in" = true)
    (k_index_in : PySem.W.keepIn K (.ref f_index_in) = true)
    (a_bare_sum : PySem.W.nsIn K mainGlobals "bare_sum" = some (some (.ref f_bare_sum)))
    (l_bare_sum : K.lookup f_bare_sum = some ⟨oc_bare_sum, od_bare_sum, .func (PySem.W.fnOf "bare_sum" "bare_sum" (defArgs s_bare_sum) (defBody s_bare_sum) (defScope s_bare_sum) .none kV_bare_sum dc_bare_sum pm_bare_sum an_bare_sum cd_bare_sum ct_bare_sum), sl_bare_sum⟩)
    (c_bare_sum : PySem.W.codeIn K cd_bare_sum "bare_sum" = true)
    (k_bare_sum : PySem.W.keepIn K (.ref f_bare_sum) = true)
    (a_bare_shift : PySem.W.nsIn K mainGlobals "bare_shift" = some (some (.ref f_bare_shift)))
    (l_bare_shift : K.lookup f_bare_shift = some ⟨oc_bare_shift, od_bare_shift, .func (PySem.W.fnOf "bare_shift" "bare_shift" (defArgs s_bare_shift) (defBody s_bare_shift) (defScope s_bare_shift) .none kV_bare_shift dc_bare_shift pm_bare_shift an_bare_shift cd_bare_shift ct_bare_shift), sl_bare_shift⟩)
    (c_bare_shift : PySem.W.codeIn K cd_bare_shift "bare_shift" = true)
    (k_bare_shift : PySem.W.keepIn K (.ref f_bare_shift) = true)
    (a_levels : PySem.W.nsIn K mainGlobals "levels" = some (some (.ref f_levels)))
    (l_levels : K.lookup f_levels = some ⟨oc_levels, od_levels, .func (PySem.W.fnOf "levels" "levels" (defArgs s_levels) (defBody s_levels) (defScope s_levels) .none kV_levels dc_levels pm_levels an_levels cd_levels ct_levels), sl_levels⟩)
    (c_levels : PySem.W.codeIn K cd_levels "levels" = true)
    (k_levels : PySem.W.keepIn K (.ref f_levels) = true)
    (a_is_allowed : PySem.W.nsIn K mainGlobals "is_allowed" = some (some (.ref f_is_allowed)))
    (l_is_allowed : K.lookup f_is_allowed = some ⟨oc_is_allowed, od_is_allowed, .func (PySem.W.fnOf "is_allowed" "is_allowed" (defArgs s_is_allowed) (defBody s_is_allowed) (defScope s_is_allowed) .none kV_is_allowed dc_is_allowed pm_is_allowed an_is_allowed cd_is_allowed ct_is_allowed), sl_is_allowed⟩)
    (c_is_allowed : PySem.W.codeIn K cd_is_allowed "is_allowed" = true)
    (k_is_allowed : PySem.W.keepIn K (.ref f_is_allowed) = true)
    (a_allowed : PySem.W.nsIn K mainGlobals "allowed" = some (some (.ref f_allowed)))
    (l_allowed : K.lookup f_allowed = some ⟨oc_allowed, od_allowed, .func (PySem.W.fnOf "allowed" "allowed" (defArgs s_allowed) (defBody s_allowed) (defScope s_allowed) .none kV_allowed dc_allowed pm_allowed an_allowed cd_allowed ct_allowed), sl_allowed⟩)
    (c_allowed : PySem.W.codeIn K cd_allowed "allowed" = true)
    (k_allowed : PySem.W.keepIn K (.ref f_allowed) = true)
    (a_sign_of : PySem.W.nsIn K mainGlobals "sign_of" = some (some (.ref f_sign_of)))
    (l_sign_of : K.lookup f_sign_of = some ⟨oc_sign_of, od_sign_of, .func (PySem.W.fnOf "sign_of" "sign_of" (defArgs s_sign_of) (defBody s_sign_of) (defScope s_sign_of) .none kV_sign_of dc_sign_of pm_sign_of an_sign_of cd_sign_of ct_sign_of), sl_sign_of⟩)
    (c_sign_of : PySem.W.codeIn K cd_sign_of "sign_of" = true)
    (k_sign_of : PySem.W.keepIn K (.ref f_sign_of) = true)
    (a_compare : PySem.W.nsIn K mainGlobals "compare" = some (some (.ref f_compare)))
    (l_compare : K.lookup f_compare = some ⟨oc_compare, od_compare, .func (PySem.W.fnOf "compare" "compare" (defArgs s_compare) (defBody s_compare) (defScope s_compare) .none kV_compare dc_compare pm_compare an_compare cd_compare ct_compare), sl_compare⟩)
    (c_compare : PySem.W.codeIn K cd_compare "compare" = true)
    (k_compare : PySem.W.keepIn K (.ref f_compare) = true)
    (a_are_apart : PySem.W.nsIn K mainGlobals "are_apart" = some (some (.ref f_are_apart)))
    (l_are_apart : K.lookup f_are_apart = some ⟨oc_are_apart, od_are_apart, .func (PySem.W.fnOf "are_apart" "are_apart" (defArgs s_are_apart) (defBody s_are_apart) (defScope s_are_apart) .none kV_are_apart dc_are_apart pm_are_apart an_are_apart cd_are_apart ct_are_apart), sl_are_apart⟩)
    (c_are_apart : PySem.W.codeIn K cd_are_apart "are_apart" = true)
    (k_are_apart : PySem.W.keepIn K (.ref f_are_apart) = true)
    (a_has_form : PySem.W.nsIn K mainGlobals "has_form" = some (some (.ref f_has_form)))
    (l_has_form : K.lookup f_has_form = some ⟨oc_has_form, od_has_form, .func (PySem.W.fnOf "has_form" "has_form" (defArgs s_has_form) (defBody s_has_form) (defScope s_has_form) .none kV_has_form dc_has_form pm_has_form an_has_form cd_has_form ct_has_form), sl_has_form⟩)
    (c_has_form : PySem.W.codeIn K cd_has_form "has_form" = true)
    (k_has_form : PySem.W.keepIn K (.ref f_has_form) = true)
    (a_check_number : PySem.W.nsIn K mainGlobals "check_number" = some (some (.ref f_check_number)))
    (l_check_number : K.lookup f_check_number = some ⟨oc_check_number, od_check_number, .func (PySem.W.fnOf "check_number" "check_number" (defArgs s_check_number) (defBody s_check_number) (defScope s_check_number) .none kV_check_number dc_check_number pm_check_number an_check_number cd_check_number ct_check_number), sl_check_number⟩)
    (c_check_number : PySem.W.codeIn K cd_check_number "check_number" = true)
    (k_check_number : PySem.W.keepIn K (.ref f_check_number) = true)
    (a_of_int : PySem.W.nsIn K mainGlobals "of_int" = some (some (.ref f_of_int)))
    (l_of_int : K.lookup f_of_int = some ⟨oc_of_int, od_of_int, .func (PySem.W.fnOf "of_int" "of_int" (defArgs s_of_int) (defBody s_of_int) (defScope s_of_int) .none kV_of_int dc_of_int pm_of_int an_of_int cd_of_int ct_of_int), sl_of_int⟩)
    (c_of_int : PySem.W.codeIn K cd_of_int "of_int" = true)
    (k_of_int : PySem.W.keepIn K (.ref f_of_int) = true)
    (a_negate : PySem.W.nsIn K mainGlobals "negate" = some (some (.ref f_negate)))
    (l_negate : K.lookup f_negate = some ⟨oc_negate, od_negate, .func (PySem.W.fnOf "negate" "negate" (defArgs s_negate) (defBody s_negate) (defScope s_negate) .none kV_negate dc_negate pm_negate an_negate cd_negate ct_negate), sl_negate⟩)
    (c_negate : PySem.W.codeIn K cd_negate "negate" = true)
    (k_negate : PySem.W.keepIn K (.ref f_negate) = true)
    (a_add : PySem.W.nsIn K mainGlobals "add" = some (some (.ref f_add)))
    (l_add : K.lookup f_add = some ⟨oc_add, od_add, .func (PySem.W.fnOf "add" "add" (defArgs s_add) (defBody s_add) (defScope s_add) .none kV_add dc_add pm_add an_add cd_add ct_add), sl_add⟩)
    (c_add : PySem.W.codeIn K cd_add "add" = true)
    (k_add : PySem.W.keepIn K (.ref f_add) = true)
    (a_sum_terms : PySem.W.nsIn K mainGlobals "sum_terms" = some (some (.ref f_sum_terms)))
    (l_sum_terms : K.lookup f_sum_terms = some ⟨oc_sum_terms, od_sum_terms, .func (PySem.W.fnOf "sum_terms" "sum_terms" (defArgs s_sum_terms) (defBody s_sum_terms) (defScope s_sum_terms) .none kV_sum_terms dc_sum_terms pm_sum_terms an_sum_terms cd_sum_terms ct_sum_terms), sl_sum_terms⟩)
    (c_sum_terms : PySem.W.codeIn K cd_sum_terms "sum_terms" = true)
    (k_sum_terms : PySem.W.keepIn K (.ref f_sum_terms) = true)
    (a_bare_plain : PySem.W.nsIn K mainGlobals "bare_plain" = some (some (.ref f_bare_plain)))
    (l_bare_plain : K.lookup f_bare_plain = some ⟨oc_bare_plain, od_bare_plain, .func (PySem.W.fnOf "bare_plain" "bare_plain" (defArgs s_bare_plain) (defBody s_bare_plain) (defScope s_bare_plain) .none kV_bare_plain dc_bare_plain pm_bare_plain an_bare_plain cd_bare_plain ct_bare_plain), sl_bare_plain⟩)
    (c_bare_plain : PySem.W.codeIn K cd_bare_plain "bare_plain" = true)
    (k_bare_plain : PySem.W.keepIn K (.ref f_bare_plain) = true)
    (a_sum_of_two : PySem.W.nsIn K mainGlobals "sum_of_two" = some (some (.ref f_sum_of_two)))
    (l_sum_of_two : K.lookup f_sum_of_two = some ⟨oc_sum_of_two, od_sum_of_two, .func (PySem.W.fnOf "sum_of_two" "sum_of_two" (defArgs s_sum_of_two) (defBody s_sum_of_two) (defScope s_sum_of_two) .none kV_sum_of_two dc_sum_of_two pm_sum_of_two an_sum_of_two cd_sum_of_two ct_sum_of_two), sl_sum_of_two⟩)
    (c_sum_of_two : PySem.W.codeIn K cd_sum_of_two "sum_of_two" = true)
    (k_sum_of_two : PySem.W.keepIn K (.ref f_sum_of_two) = true)
    (a_bare_product : PySem.W.nsIn K mainGlobals "bare_product" = some (some (.ref f_bare_product)))
    (l_bare_product : K.lookup f_bare_product = some ⟨oc_bare_product, od_bare_product, .func (PySem.W.fnOf "bare_product" "bare_product" (defArgs s_bare_product) (defBody s_bare_product) (defScope s_bare_product) .none kV_bare_product dc_bare_product pm_bare_product an_bare_product cd_bare_product ct_bare_product), sl_bare_product⟩)
    (c_bare_product : PySem.W.codeIn K cd_bare_product "bare_product" = true)
    (k_bare_product : PySem.W.keepIn K (.ref f_bare_product) = true)
    (a_bare_inverse : PySem.W.nsIn K mainGlobals "bare_inverse" = some (some (.ref f_bare_inverse)))
    (l_bare_inverse : K.lookup f_bare_inverse = some ⟨oc_bare_inverse, od_bare_inverse, .func (PySem.W.fnOf "bare_inverse" "bare_inverse" (defArgs s_bare_inverse) (defBody s_bare_inverse) (defScope s_bare_inverse) .none kV_bare_inverse dc_bare_inverse pm_bare_inverse an_bare_inverse cd_bare_inverse ct_bare_inverse), sl_bare_inverse⟩)
    (c_bare_inverse : PySem.W.codeIn K cd_bare_inverse "bare_inverse" = true)
    (k_bare_inverse : PySem.W.keepIn K (.ref f_bare_inverse) = true)
    (a_allowed_el : PySem.W.nsIn K mainGlobals "allowed_element" = some (some (.ref f_allowed_el)))
    (l_allowed_el : K.lookup f_allowed_el = some ⟨oc_allowed_el, od_allowed_el, .func (PySem.W.fnOf "allowed_element" "allowed_element" (defArgs s_allowed_el) (defBody s_allowed_el) (defScope s_allowed_el) .none kV_allowed_el dc_allowed_el pm_allowed_el an_allowed_el cd_allowed_el ct_allowed_el), sl_allowed_el⟩)
    (c_allowed_el : PySem.W.codeIn K cd_allowed_el "allowed_element" = true)
    (k_allowed_el : PySem.W.keepIn K (.ref f_allowed_el) = true)
    (a_is_plain : PySem.W.nsIn K mainGlobals "is_plain" = some (some (.ref f_is_plain)))
    (l_is_plain : K.lookup f_is_plain = some ⟨oc_is_plain, od_is_plain, .func (PySem.W.fnOf "is_plain" "is_plain" (defArgs s_is_plain) (defBody s_is_plain) (defScope s_is_plain) .none kV_is_plain dc_is_plain pm_is_plain an_is_plain cd_is_plain ct_is_plain), sl_is_plain⟩)
    (c_is_plain : PySem.W.codeIn K cd_is_plain "is_plain" = true)
    (k_is_plain : PySem.W.keepIn K (.ref f_is_plain) = true)
    (a_plain_elX : PySem.W.nsIn K mainGlobals "plain" = some (some (.ref f_plain_elX)))
    (l_plain_elX : K.lookup f_plain_elX = some ⟨oc_plain_elX, od_plain_elX, .func (PySem.W.fnOf "plain" "plain" (defArgs s_plain_elX) (defBody s_plain_elX) (defScope s_plain_elX) .none kV_plain_elX dc_plain_elX pm_plain_elX an_plain_elX cd_plain_elX ct_plain_elX), sl_plain_elX⟩)
    (c_plain_elX : PySem.W.codeIn K cd_plain_elX "plain" = true)
    (k_plain_elX : PySem.W.keepIn K (.ref f_plain_elX) = true)
    (a_mul_el : PySem.W.nsIn K mainGlobals "multiply_elements" = some (some (.ref f_mul_el)))
    (l_mul_el : K.lookup f_mul_el = some ⟨oc_mul_el, od_mul_el, .func (PySem.W.fnOf "multiply_elements" "multiply_elements" (defArgs s_mul_el) (defBody s_mul_el) (defScope s_mul_el) .none kV_mul_el dc_mul_el pm_mul_el an_mul_el cd_mul_el ct_mul_el), sl_mul_el⟩)
    (c_mul_el : PySem.W.codeIn K cd_mul_el "multiply_elements" = true)
    (k_mul_el : PySem.W.keepIn K (.ref f_mul_el) = true)
    (a_inv_el : PySem.W.nsIn K mainGlobals "inverse_element" = some (some (.ref f_inv_el)))
    (l_inv_el : K.lookup f_inv_el = some ⟨oc_inv_el, od_inv_el, .func (PySem.W.fnOf "inverse_element" "inverse_element" (defArgs s_inv_el) (defBody s_inv_el) (defScope s_inv_el) .none kV_inv_el dc_inv_el pm_inv_el an_inv_el cd_inv_el ct_inv_el), sl_inv_el⟩)
    (c_inv_el : PySem.W.codeIn K cd_inv_el "inverse_element" = true)
    (k_inv_el : PySem.W.keepIn K (.ref f_inv_el) = true)
    (a_law_numbers44 : PySem.W.nsIn K mainGlobals "_law_numbers" = some (some (.ref f_law_numbers44)))
    (l_law_numbers44 : K.lookup f_law_numbers44 = some ⟨oc_law_numbers44, od_law_numbers44, .func (PySem.W.fnOf "_law_numbers" "_law_numbers" (defArgs s_law_numbers44) (defBody s_law_numbers44) (defScope s_law_numbers44) .none kV_law_numbers44 dc_law_numbers44 pm_law_numbers44 an_law_numbers44 cd_law_numbers44 ct_law_numbers44), sl_law_numbers44⟩)
    (c_law_numbers44 : PySem.W.codeIn K cd_law_numbers44 "_law_numbers" = true)
    (k_law_numbers44 : PySem.W.keepIn K (.ref f_law_numbers44) = true)
    (a_law_tower46 : PySem.W.nsIn K mainGlobals "_law_tower" = some (some (.ref f_law_tower46)))
    (l_law_tower46 : K.lookup f_law_tower46 = some ⟨oc_law_tower46, od_law_tower46, .func (PySem.W.fnOf "_law_tower" "_law_tower" (defArgs s_law_tower46) (defBody s_law_tower46) (defScope s_law_tower46) .none kV_law_tower46 dc_law_tower46 pm_law_tower46 an_law_tower46 cd_law_tower46 ct_law_tower46), sl_law_tower46⟩)
    (c_law_tower46 : PySem.W.codeIn K cd_law_tower46 "_law_tower" = true)
    (k_law_tower46 : PySem.W.keepIn K (.ref f_law_tower46) = true)
    (a_law_drawn46 : PySem.W.nsIn K mainGlobals "_law_drawn" = some (some (.ref f_law_drawn46)))
    (l_law_drawn46 : K.lookup f_law_drawn46 = some ⟨oc_law_drawn46, od_law_drawn46, .func (PySem.W.fnOf "_law_drawn" "_law_drawn" (defArgs s_law_drawn46) (defBody s_law_drawn46) (defScope s_law_drawn46) .none kV_law_drawn46 dc_law_drawn46 pm_law_drawn46 an_law_drawn46 cd_law_drawn46 ct_law_drawn46), sl_law_drawn46⟩)
    (c_law_drawn46 : PySem.W.codeIn K cd_law_drawn46 "_law_drawn" = true)
    (k_law_drawn46 : PySem.W.keepIn K (.ref f_law_drawn46) = true)
    (a_law_low46 : PySem.W.nsIn K mainGlobals "_law_low" = some (some (.ref f_law_low46)))
    (l_law_low46 : K.lookup f_law_low46 = some ⟨oc_law_low46, od_law_low46, .func (PySem.W.fnOf "_law_low" "_law_low" (defArgs s_law_low46) (defBody s_law_low46) (defScope s_law_low46) .none kV_law_low46 dc_law_low46 pm_law_low46 an_law_low46 cd_law_low46 ct_law_low46), sl_law_low46⟩)
    (c_law_low46 : PySem.W.codeIn K cd_law_low46 "_law_low" = true)
    (k_law_low46 : PySem.W.keepIn K (.ref f_law_low46) = true)
    (a_law_good46 : PySem.W.nsIn K mainGlobals "_law_good" = some (some (.ref f_law_good46)))
    (l_law_good46 : K.lookup f_law_good46 = some ⟨oc_law_good46, od_law_good46, .func (PySem.W.fnOf "_law_good" "_law_good" (defArgs s_law_good46) (defBody s_law_good46) (defScope s_law_good46) .none kV_law_good46 dc_law_good46 pm_law_good46 an_law_good46 cd_law_good46 ct_law_good46), sl_law_good46⟩)
    (c_law_good46 : PySem.W.codeIn K cd_law_good46 "_law_good" = true)
    (k_law_good46 : PySem.W.keepIn K (.ref f_law_good46) = true)
    (a_law_wide46 : PySem.W.nsIn K mainGlobals "_law_wide" = some (some (.ref f_law_wide46)))
    (l_law_wide46 : K.lookup f_law_wide46 = some ⟨oc_law_wide46, od_law_wide46, .func (PySem.W.fnOf "_law_wide" "_law_wide" (defArgs s_law_wide46) (defBody s_law_wide46) (defScope s_law_wide46) .none kV_law_wide46 dc_law_wide46 pm_law_wide46 an_law_wide46 cd_law_wide46 ct_law_wide46), sl_law_wide46⟩)
    (c_law_wide46 : PySem.W.codeIn K cd_law_wide46 "_law_wide" = true)
    (k_law_wide46 : PySem.W.keepIn K (.ref f_law_wide46) = true)
    (a_law_told46 : PySem.W.nsIn K mainGlobals "_law_told" = some (some (.ref f_law_told46)))
    (l_law_told46 : K.lookup f_law_told46 = some ⟨oc_law_told46, od_law_told46, .func (PySem.W.fnOf "_law_told" "_law_told" (defArgs s_law_told46) (defBody s_law_told46) (defScope s_law_told46) .none kV_law_told46 dc_law_told46 pm_law_told46 an_law_told46 cd_law_told46 ct_law_told46), sl_law_told46⟩)
    (c_law_told46 : PySem.W.codeIn K cd_law_told46 "_law_told" = true)
    (k_law_told46 : PySem.W.keepIn K (.ref f_law_told46) = true)
    (a_law_refused46 : PySem.W.nsIn K mainGlobals "_law_refused" = some (some (.ref f_law_refused46)))
    (l_law_refused46 : K.lookup f_law_refused46 = some ⟨oc_law_refused46, od_law_refused46, .func (PySem.W.fnOf "_law_refused" "_law_refused" (defArgs s_law_refused46) (defBody s_law_refused46) (defScope s_law_refused46) .none kV_law_refused46 dc_law_refused46 pm_law_refused46 an_law_refused46 cd_law_refused46 ct_law_refused46), sl_law_refused46⟩)
    (c_law_refused46 : PySem.W.codeIn K cd_law_refused46 "_law_refused" = true)
    (k_law_refused46 : PySem.W.keepIn K (.ref f_law_refused46) = true)
    (a_law_agrees46 : PySem.W.nsIn K mainGlobals "_law_agrees" = some (some (.ref f_law_agrees46)))
    (l_law_agrees46 : K.lookup f_law_agrees46 = some ⟨oc_law_agrees46, od_law_agrees46, .func (PySem.W.fnOf "_law_agrees" "_law_agrees" (defArgs s_law_agrees46) (defBody s_law_agrees46) (defScope s_law_agrees46) .none kV_law_agrees46 dc_law_agrees46 pm_law_agrees46 an_law_agrees46 cd_law_agrees46 ct_law_agrees46), sl_law_agrees46⟩)
    (c_law_agrees46 : PySem.W.codeIn K cd_law_agrees46 "_law_agrees" = true)
    (k_law_agrees46 : PySem.W.keepIn K (.ref f_law_agrees46) = true)
    (a_law : PySem.W.nsIn K mainGlobals "law" = some (some (.ref f_law)))
    (l_law : K.lookup f_law = some ⟨oc_law, od_law, .func (PySem.W.fnOf "law" "law" (defArgs s_law) (defBody s_law) (defScope s_law) .none kV_law dc_law pm_law an_law cd_law ct_law), sl_law⟩)
    (c_law : PySem.W.codeIn K cd_law "law" = true)
    (k_law : PySem.W.keepIn K (.ref f_law) = true)
    (x1_NotAllowed : PySem.W.nsIn K mainGlobals "NotAllowed" = some (some (.ref a_NotAllowed)))
    (x2_NotAllowed : PySem.W.keepIn K (.ref a_NotAllowed) = true)
    (x4_NotAllowed : PySem.W.subIn K (.ref a_NotAllowed) (.type "BaseException") = some true)
    (x5_NotAllowed : PySem.W.typeIn K (.ref a_NotAllowed) = some (.type "type"))
    (y1_NotAllowed : PySem.W.findIn K (.ref a_NotAllowed) "__getattribute__" = some (some (.builtin "BaseException.__getattribute__")))
    (y2_NotAllowed : PySem.W.findIn K (.ref a_NotAllowed) "__getattr__" = some none)
    (y4_NotAllowed : PySem.W.hasDictIn K a_NotAllowed = true)
    (y5_NotAllowed : PySem.W.findIn K (.ref a_NotAllowed) "__class__" = some (some (.builtin "object.__class__")))
    (y8_NotAllowed : PySem.W.mroIn K a_NotAllowed (.type "object") = some true)
    (x1_ReckonError : PySem.W.nsIn K mainGlobals "ReckonError" = some (some (.ref a_ReckonError)))
    (x2_ReckonError : PySem.W.keepIn K (.ref a_ReckonError) = true)
    (x4_ReckonError : PySem.W.subIn K (.ref a_ReckonError) (.type "BaseException") = some true)
    (x5_ReckonError : PySem.W.typeIn K (.ref a_ReckonError) = some (.type "type"))
    (y1_ReckonError : PySem.W.findIn K (.ref a_ReckonError) "__getattribute__" = some (some (.builtin "BaseException.__getattribute__")))
    (y2_ReckonError : PySem.W.findIn K (.ref a_ReckonError) "__getattr__" = some none)
    (y4_ReckonError : PySem.W.hasDictIn K a_ReckonError = true)
    (y5_ReckonError : PySem.W.findIn K (.ref a_ReckonError) "__class__" = some (some (.builtin "object.__class__")))
    (y8_ReckonError : PySem.W.mroIn K a_ReckonError (.type "object") = some true)
    (x1_TooLarge : PySem.W.nsIn K mainGlobals "TooLarge" = some (some (.ref a_TooLarge)))
    (x2_TooLarge : PySem.W.keepIn K (.ref a_TooLarge) = true)
    (x4_TooLarge : PySem.W.subIn K (.ref a_TooLarge) (.type "BaseException") = some true)
    (x5_TooLarge : PySem.W.typeIn K (.ref a_TooLarge) = some (.type "type"))
    (y1_TooLarge : PySem.W.findIn K (.ref a_TooLarge) "__getattribute__" = some (some (.builtin "BaseException.__getattribute__")))
    (y2_TooLarge : PySem.W.findIn K (.ref a_TooLarge) "__getattr__" = some none)
    (y4_TooLarge : PySem.W.hasDictIn K a_TooLarge = true)
    (y5_TooLarge : PySem.W.findIn K (.ref a_TooLarge) "__class__" = some (some (.builtin "object.__class__")))
    (y8_TooLarge : PySem.W.mroIn K a_TooLarge (.type "object") = some true)
    (vV : PySem.W.findCls K (.type "ValueError") (.type "type") "__init__" = some (.val (.builtin "ValueError.__init__")))
    (i1_ReckonError : PySem.W.findIn K (.ref a_ReckonError) "__init__" = some (some (.ref f_c_ReckonError)))
    (i2_ReckonError : PySem.W.typeIn K (.ref f_c_ReckonError) = some (.type "function"))
    (i3_ReckonError : K.lookup f_c_ReckonError = some ⟨oc_c_ReckonError, od_c_ReckonError, .func (PySem.W.fnOf "__init__" "ReckonError.__init__" (defArgs s_c_ReckonError) (defBody s_c_ReckonError) (defScope s_c_ReckonError) (.ref T_c_ReckonError) kV_c_ReckonError dc_c_ReckonError pm_c_ReckonError an_c_ReckonError cd_c_ReckonError ct_c_ReckonError), sl_c_ReckonError⟩)
    (i4_ReckonError : K.lookup T_c_ReckonError = some ⟨oc2_c_ReckonError, od2_c_ReckonError, .seq #[.str "" tk_c_ReckonError, .str "" tk2_c_ReckonError] n_c_ReckonError, sl2_c_ReckonError⟩)
    (i5_ReckonError : PySem.W.codeIn K cd_c_ReckonError "ReckonError.__init__" = true)
    (i6_ReckonError : PySem.W.keepIn K (.ref f_c_ReckonError) = true)
    (g1_R : PySem.W.readsIn K a_ReckonError (.type "type") = true)
    (g2_R : PySem.W.specialIn K (.ref a_ReckonError) "__getattribute__" = some (some (.builtin "type.__getattribute__")))
    (g3_R : PySem.W.findCls K (.ref a_ReckonError) (.type "type") "__init__" = some (.val (.ref f_c_ReckonError)))
    (i1_NotAllowed : PySem.W.findIn K (.ref a_NotAllowed) "__init__" = some (some (.ref f_c_NotAllowed)))
    (i2_NotAllowed : PySem.W.typeIn K (.ref f_c_NotAllowed) = some (.type "function"))
    (i3_NotAllowed : K.lookup f_c_NotAllowed = some ⟨oc_c_NotAllowed, od_c_NotAllowed, .func (PySem.W.fnOf "__init__" "NotAllowed.__init__" (defArgs s_c_NotAllowed) (defBody s_c_NotAllowed) (defScope s_c_NotAllowed) (.ref T_c_NotAllowed) kV_c_NotAllowed dc_c_NotAllowed pm_c_NotAllowed an_c_NotAllowed cd_c_NotAllowed ct_c_NotAllowed), sl_c_NotAllowed⟩)
    (i4_NotAllowed : K.lookup T_c_NotAllowed = some ⟨oc2_c_NotAllowed, od2_c_NotAllowed, .seq #[.str "" tk_c_NotAllowed] n_c_NotAllowed, sl2_c_NotAllowed⟩)
    (i5_NotAllowed : PySem.W.codeIn K cd_c_NotAllowed "NotAllowed.__init__" = true)
    (i6_NotAllowed : PySem.W.keepIn K (.ref f_c_NotAllowed) = true)
    (o1_NotAllowed : K.lookup a_NotAllowed = some (excClassObj "NotAllowed" q_NotAllowed a_NotAllowed N_NotAllowed bs_NotAllowed bm_NotAllowed true sn_NotAllowed sub_NotAllowed ab_NotAllowed col_NotAllowed dd_NotAllowed k0_NotAllowed k1_NotAllowed k2_NotAllowed k3_NotAllowed k5_NotAllowed "ValueError.__new__"))
    (o2_NotAllowed : PySem.HandSPX.refsVE bm_NotAllowed = true)
    (o3_NotAllowed : PySem.W.findIn K (.ref a_NotAllowed) "__setattr__" = some (some (.builtin "object.__setattr__")))
    (o4_NotAllowed : PySem.W.findIn K (.ref a_NotAllowed) "word" = some none)
    (i1_TooLarge : PySem.W.findIn K (.ref a_TooLarge) "__init__" = some (some (.ref f_c_TooLarge)))
    (i2_TooLarge : PySem.W.typeIn K (.ref f_c_TooLarge) = some (.type "function"))
    (i3_TooLarge : K.lookup f_c_TooLarge = some ⟨oc_c_TooLarge, od_c_TooLarge, .func (PySem.W.fnOf "__init__" "TooLarge.__init__" (defArgs s_c_TooLarge) (defBody s_c_TooLarge) (defScope s_c_TooLarge) (.ref T_c_TooLarge) kV_c_TooLarge dc_c_TooLarge pm_c_TooLarge an_c_TooLarge cd_c_TooLarge ct_c_TooLarge), sl_c_TooLarge⟩)
    (i4_TooLarge : K.lookup T_c_TooLarge = some ⟨oc2_c_TooLarge, od2_c_TooLarge, .seq #[.str "" tk_c_TooLarge] n_c_TooLarge, sl2_c_TooLarge⟩)
    (i5_TooLarge : PySem.W.codeIn K cd_c_TooLarge "TooLarge.__init__" = true)
    (i6_TooLarge : PySem.W.keepIn K (.ref f_c_TooLarge) = true)
    (o1_TooLarge : K.lookup a_TooLarge = some (excClassObj "TooLarge" q_TooLarge a_TooLarge N_TooLarge bs_TooLarge bm_TooLarge true sn_TooLarge sub_TooLarge ab_TooLarge col_TooLarge dd_TooLarge k0_TooLarge k1_TooLarge k2_TooLarge k3_TooLarge k5_TooLarge "ValueError.__new__"))
    (o2_TooLarge : PySem.HandSPX.refsVE bm_TooLarge = true)
    (o3_TooLarge : PySem.W.findIn K (.ref a_TooLarge) "__setattr__" = some (some (.builtin "object.__setattr__")))
    (o4_TooLarge : PySem.W.findIn K (.ref a_TooLarge) "word" = some none)
    (y6 : PySem.W.specialIn K (.builtin "object.__class__") "__get__" = some (some (.builtin "getset_descriptor.__get__")))
    (y7 : PySem.W.takesIn K (.builtin "object.__class__") = some true)
    (s_TooLarge_TooLarge : PySem.W.subIn K (.ref a_TooLarge) (.ref a_TooLarge) = some true)
    (s_TooLarge_ReckonError : PySem.W.subIn K (.ref a_TooLarge) (.ref a_ReckonError) = some true)
    (s_TooLarge_NotAllowed : PySem.W.subIn K (.ref a_TooLarge) (.ref a_NotAllowed) = some false)
    (z_ValueError : PySem.W.nsIn K mainGlobals "ValueError" = some none)
    (z_abs : PySem.W.nsIn K mainGlobals "abs" = some none)
    (z_all : PySem.W.nsIn K mainGlobals "all" = some none)
    (z_int : PySem.W.nsIn K mainGlobals "int" = some none)
    (z_isinstance : PySem.W.nsIn K mainGlobals "isinstance" = some none)
    (z_len : PySem.W.nsIn K mainGlobals "len" = some none)
    (z_list : PySem.W.nsIn K mainGlobals "list" = some none)
    (z_max : PySem.W.nsIn K mainGlobals "max" = some none)
    (z_range : PySem.W.nsIn K mainGlobals "range" = some none)
    (z_sum : PySem.W.nsIn K mainGlobals "sum" = some none)
    (z_tuple : PySem.W.nsIn K mainGlobals "tuple" = some none)
    (z_zip : PySem.W.nsIn K mainGlobals "zip" = some none)
    (w_FIRST_END : PySem.W.nsIn K mainGlobals "FIRST_END" = some (some (.int 8 t_FIRST_END)))
    (w_INTEGER_BITS : PySem.W.nsIn K mainGlobals "INTEGER_BITS" = some (some (.int 512 t_INTEGER_BITS)))
    (w_MAX_GIVEN_BITS : PySem.W.nsIn K mainGlobals "MAX_GIVEN_BITS" = some (some (.int 2900 t_MAX_GIVEN_BITS)))
    (w_MAX_HEIGHT : PySem.W.nsIn K mainGlobals "MAX_HEIGHT" = some (some (.int 40 t_MAX_HEIGHT)))
    (w_MAX_SIZE : PySem.W.nsIn K mainGlobals "MAX_SIZE" = some (some (.int 300 t_MAX_SIZE)))
    (w_MAX_TERMS : PySem.W.nsIn K mainGlobals "MAX_TERMS" = some (some (.int 400 t_MAX_TERMS)))
    (w_NEAR_BITS : PySem.W.nsIn K mainGlobals "NEAR_BITS" = some (some (.int 64 t_NEAR_BITS)))
    (w_PLACE_BITS : PySem.W.nsIn K mainGlobals "PLACE_BITS" = some (some (.int 9 t_PLACE_BITS)))
    (v1_FIRST_NUMBERS : PySem.W.nsIn K mainGlobals "FIRST_NUMBERS" = some (some (.ref a_FIRST_NUMBERS)))
    (v2_FIRST_NUMBERS : kdat K 14 (.ref a_FIRST_NUMBERS) = some firstD)
    (v1_UNIT : PySem.W.nsIn K mainGlobals "UNIT" = some (some (.ref a_UNIT)))
    (v2_UNIT : kdat K 5 (.ref a_UNIT) = some unitD) :
    ∃ fd : FuncData, (∀ (s : Shared) (v : Value), BindsTo s fd ⟨[v], []⟩ [("script", v)]) ∧ ∀ base : Heap, K.In base → base.Ns mainGlobals mg → FnOk l.prog w K mg base CX0 120 fa fd ["script"] (sp_law K) := by
  have e := hfa.symm.trans (PySem.W.mg_of X G a_law)
  cases e
  have F_signed_places := fun_mk (st := s_signed_places) l_signed_places c_signed_places k_signed_places
  have D_signed_places : DefAt K mg "signed_places" s_signed_places ["value"] _ _ := ⟨F_signed_places, PySem.W.mg_of X G a_signed_places, F_signed_places.binds (ps := ["value"]) fun _ _ _ _ _ _ us hl => match us, hl with | [_], _ => rfl⟩
  have F_bare_number := fun_mk (st := s_bare_number) l_bare_number c_bare_number k_bare_number
  have D_bare_number : DefAt K mg "bare_number" s_bare_number ["value"] _ _ := ⟨F_bare_number, PySem.W.mg_of X G a_bare_number, F_bare_number.binds (ps := ["value"]) fun _ _ _ _ _ _ us hl => match us, hl with | [_], _ => rfl⟩
  have F_value_within := fun_mk (st := s_value_within) l_value_within c_value_within k_value_within
  have D_value_within : DefAt K mg "value_within" s_value_within ["number", "bits"] _ _ := ⟨F_value_within, PySem.W.mg_of X G a_value_within, F_value_within.binds (ps := ["number", "bits"]) fun _ _ _ _ _ _ us hl => match us, hl with | [_, _], _ => rfl⟩
  have F_plus_small := fun_mk (st := s_plus_small) l_plus_small c_plus_small k_plus_small
  have D_plus_small : DefAt K mg "plus_small" s_plus_small ["number", "value"] _ _ := ⟨F_plus_small, PySem.W.mg_of X G a_plus_small, F_plus_small.binds (ps := ["number", "value"]) fun _ _ _ _ _ _ us hl => match us, hl with | [_, _], _ => rfl⟩
  have F_order := fun_mk (st := s_order) l_order c_order k_order
  have D_order : DefAt K mg "order" s_order ["first", "second"] _ _ := ⟨F_order, PySem.W.mg_of X G a_order, F_order.binds (ps := ["first", "second"]) fun _ _ _ _ _ _ us hl => match us, hl with | [_, _], _ => rfl⟩
  have F_gap := fun_mk (st := s_gap) l_gap c_gap k_gap
  have D_gap : DefAt K mg "gap" s_gap ["first", "second"] _ _ := ⟨F_gap, PySem.W.mg_of X G a_gap, F_gap.binds (ps := ["first", "second"]) fun _ _ _ _ _ _ us hl => match us, hl with | [_, _], _ => rfl⟩
  have F_terms_at := fun_mk (st := s_terms_at) l_terms_at c_terms_at k_terms_at
  have D_terms_at : DefAt K mg "terms_at" s_terms_at ["base", "value"] _ _ := ⟨F_terms_at, PySem.W.mg_of X G a_terms_at, F_terms_at.binds (ps := ["base", "value"]) fun _ _ _ _ _ _ us hl => match us, hl with | [_, _], _ => rfl⟩
  have F_settled := fun_mk (st := s_settled) l_settled c_settled k_settled
  have D_settled : DefAt K mg "settled" s_settled ["row", "many"] _ _ := ⟨F_settled, PySem.W.mg_of X G a_settled, F_settled.binds (ps := ["row", "many"]) fun _ _ _ _ _ _ us hl => match us, hl with | [_, _], _ => rfl⟩
  have F_plus := fun_mk (st := s_plus) l_plus c_plus k_plus
  have D_plus : DefAt K mg "plus" s_plus ["first", "second"] _ _ := ⟨F_plus, PySem.W.mg_of X G a_plus, F_plus.binds (ps := ["first", "second"]) fun _ _ _ _ _ _ us hl => match us, hl with | [_, _], _ => rfl⟩
  have F_index_in := fun_mk (st := s_index_in) l_index_in c_index_in k_index_in
  have D_index_in : DefAt K mg "index_in" s_index_in ["row", "exponent"] _ _ := ⟨F_index_in, PySem.W.mg_of X G a_index_in, F_index_in.binds (ps := ["row", "exponent"]) fun _ _ _ _ _ _ us hl => match us, hl with | [_, _], _ => rfl⟩
  have F_bare_sum := fun_mk (st := s_bare_sum) l_bare_sum c_bare_sum k_bare_sum
  have D_bare_sum : DefAt K mg "bare_sum" s_bare_sum ["terms"] _ _ := ⟨F_bare_sum, PySem.W.mg_of X G a_bare_sum, F_bare_sum.binds (ps := ["terms"]) fun _ _ _ _ _ _ us hl => match us, hl with | [_], _ => rfl⟩
  have F_bare_shift := fun_mk (st := s_bare_shift) l_bare_shift c_bare_shift k_bare_shift
  have D_bare_shift : DefAt K mg "bare_shift" s_bare_shift ["terms", "places"] _ _ := ⟨F_bare_shift, PySem.W.mg_of X G a_bare_shift, F_bare_shift.binds (ps := ["terms", "places"]) fun _ _ _ _ _ _ us hl => match us, hl with | [_, _], _ => rfl⟩
  have F_levels := fun_mk (st := s_levels) l_levels c_levels k_levels
  have D_levels : DefAt K mg "levels" s_levels ["number"] _ _ := ⟨F_levels, PySem.W.mg_of X G a_levels, F_levels.binds (ps := ["number"]) fun _ _ _ _ _ _ us hl => match us, hl with | [_], _ => rfl⟩
  have F_is_allowed := fun_mk (st := s_is_allowed) l_is_allowed c_is_allowed k_is_allowed
  have D_is_allowed : DefAt K mg "is_allowed" s_is_allowed ["number"] _ _ := ⟨F_is_allowed, PySem.W.mg_of X G a_is_allowed, F_is_allowed.binds (ps := ["number"]) fun _ _ _ _ _ _ us hl => match us, hl with | [_], _ => rfl⟩
  have F_allowed := fun_mk (st := s_allowed) l_allowed c_allowed k_allowed
  have D_allowed : DefAt K mg "allowed" s_allowed ["number"] _ _ := ⟨F_allowed, PySem.W.mg_of X G a_allowed, F_allowed.binds (ps := ["number"]) fun _ _ _ _ _ _ us hl => match us, hl with | [_], _ => rfl⟩
  have F_sign_of := fun_mk (st := s_sign_of) l_sign_of c_sign_of k_sign_of
  have D_sign_of : DefAt K mg "sign_of" s_sign_of ["number"] _ _ := ⟨F_sign_of, PySem.W.mg_of X G a_sign_of, F_sign_of.binds (ps := ["number"]) fun _ _ _ _ _ _ us hl => match us, hl with | [_], _ => rfl⟩
  have F_compare := fun_mk (st := s_compare) l_compare c_compare k_compare
  have D_compare : DefAt K mg "compare" s_compare ["first", "second"] _ _ := ⟨F_compare, PySem.W.mg_of X G a_compare, F_compare.binds (ps := ["first", "second"]) fun _ _ _ _ _ _ us hl => match us, hl with | [_, _], _ => rfl⟩
  have F_are_apart := fun_mk (st := s_are_apart) l_are_apart c_are_apart k_are_apart
  have D_are_apart : DefAt K mg "are_apart" s_are_apart ["upper", "lower"] _ _ := ⟨F_are_apart, PySem.W.mg_of X G a_are_apart, F_are_apart.binds (ps := ["upper", "lower"]) fun _ _ _ _ _ _ us hl => match us, hl with | [_, _], _ => rfl⟩
  have F_has_form := fun_mk (st := s_has_form) l_has_form c_has_form k_has_form
  have D_has_form : DefAt K mg "has_form" s_has_form ["number"] _ _ := ⟨F_has_form, PySem.W.mg_of X G a_has_form, F_has_form.binds (ps := ["number"]) fun _ _ _ _ _ _ us hl => match us, hl with | [_], _ => rfl⟩
  have F_check_number := fun_mk (st := s_check_number) l_check_number c_check_number k_check_number
  have D_check_number : DefAt K mg "check_number" s_check_number ["number"] _ _ := ⟨F_check_number, PySem.W.mg_of X G a_check_number, F_check_number.binds (ps := ["number"]) fun _ _ _ _ _ _ us hl => match us, hl with | [_], _ => rfl⟩
  have F_of_int := fun_mk (st := s_of_int) l_of_int c_of_int k_of_int
  have D_of_int : DefAt K mg "of_int" s_of_int ["value"] _ _ := ⟨F_of_int, PySem.W.mg_of X G a_of_int, F_of_int.binds (ps := ["value"]) fun _ _ _ _ _ _ us hl => match us, hl with | [_], _ => rfl⟩
  have F_negate := fun_mk (st := s_negate) l_negate c_negate k_negate
  have D_negate : DefAt K mg "negate" s_negate ["number"] _ _ := ⟨F_negate, PySem.W.mg_of X G a_negate, F_negate.binds (ps := ["number"]) fun _ _ _ _ _ _ us hl => match us, hl with | [_], _ => rfl⟩
  have F_add := fun_mk (st := s_add) l_add c_add k_add
  have D_add : DefAt K mg "add" s_add ["first", "second"] _ _ := ⟨F_add, PySem.W.mg_of X G a_add, F_add.binds (ps := ["first", "second"]) fun _ _ _ _ _ _ us hl => match us, hl with | [_, _], _ => rfl⟩
  have F_sum_terms := fun_mk (st := s_sum_terms) l_sum_terms c_sum_terms k_sum_terms
  have D_sum_terms : DefAt K mg "sum_terms" s_sum_terms ["terms"] _ _ := ⟨F_sum_terms, PySem.W.mg_of X G a_sum_terms, F_sum_terms.binds (ps := ["terms"]) fun _ _ _ _ _ _ us hl => match us, hl with | [_], _ => rfl⟩
  have F_bare_plain := fun_mk (st := s_bare_plain) l_bare_plain c_bare_plain k_bare_plain
  have D_bare_plain : DefAt K mg "bare_plain" s_bare_plain ["element"] _ _ := ⟨F_bare_plain, PySem.W.mg_of X G a_bare_plain, F_bare_plain.binds (ps := ["element"]) fun _ _ _ _ _ _ us hl => match us, hl with | [_], _ => rfl⟩
  have F_sum_of_two := fun_mk (st := s_sum_of_two) l_sum_of_two c_sum_of_two k_sum_of_two
  have D_sum_of_two : DefAt K mg "sum_of_two" s_sum_of_two ["u", "v", "x", "y"] _ _ := ⟨F_sum_of_two, PySem.W.mg_of X G a_sum_of_two, F_sum_of_two.binds (ps := ["u", "v", "x", "y"]) fun _ _ _ _ _ _ us hl => match us, hl with | [_, _, _, _], _ => rfl⟩
  have F_bare_product := fun_mk (st := s_bare_product) l_bare_product c_bare_product k_bare_product
  have D_bare_product : DefAt K mg "bare_product" s_bare_product ["first", "second"] _ _ := ⟨F_bare_product, PySem.W.mg_of X G a_bare_product, F_bare_product.binds (ps := ["first", "second"]) fun _ _ _ _ _ _ us hl => match us, hl with | [_, _], _ => rfl⟩
  have F_bare_inverse := fun_mk (st := s_bare_inverse) l_bare_inverse c_bare_inverse k_bare_inverse
  have D_bare_inverse : DefAt K mg "bare_inverse" s_bare_inverse ["element"] _ _ := ⟨F_bare_inverse, PySem.W.mg_of X G a_bare_inverse, F_bare_inverse.binds (ps := ["element"]) fun _ _ _ _ _ _ us hl => match us, hl with | [_], _ => rfl⟩
  have F_allowed_el := fun_mk (st := s_allowed_el) l_allowed_el c_allowed_el k_allowed_el
  have D_allowed_element : DefAt K mg "allowed_element" s_allowed_el ["element"] _ _ := ⟨F_allowed_el, PySem.W.mg_of X G a_allowed_el, F_allowed_el.binds (ps := ["element"]) fun _ _ _ _ _ _ us hl => match us, hl with | [_], _ => rfl⟩
  have F_is_plain := fun_mk (st := s_is_plain) l_is_plain c_is_plain k_is_plain
  have D_is_plain : DefAt K mg "is_plain" s_is_plain ["element"] _ _ := ⟨F_is_plain, PySem.W.mg_of X G a_is_plain, F_is_plain.binds (ps := ["element"]) fun _ _ _ _ _ _ us hl => match us, hl with | [_], _ => rfl⟩
  have F_plain_elX := fun_mk (st := s_plain_elX) l_plain_elX c_plain_elX k_plain_elX
  have D_plain : DefAt K mg "plain" s_plain_elX ["element"] _ _ := ⟨F_plain_elX, PySem.W.mg_of X G a_plain_elX, F_plain_elX.binds (ps := ["element"]) fun _ _ _ _ _ _ us hl => match us, hl with | [_], _ => rfl⟩
  have F_mul_el := fun_mk (st := s_mul_el) l_mul_el c_mul_el k_mul_el
  have D_multiply_elements : DefAt K mg "multiply_elements" s_mul_el ["first", "second"] _ _ := ⟨F_mul_el, PySem.W.mg_of X G a_mul_el, F_mul_el.binds (ps := ["first", "second"]) fun _ _ _ _ _ _ us hl => match us, hl with | [_, _], _ => rfl⟩
  have F_inv_el := fun_mk (st := s_inv_el) l_inv_el c_inv_el k_inv_el
  have D_inverse_element : DefAt K mg "inverse_element" s_inv_el ["element"] _ _ := ⟨F_inv_el, PySem.W.mg_of X G a_inv_el, F_inv_el.binds (ps := ["element"]) fun _ _ _ _ _ _ us hl => match us, hl with | [_], _ => rfl⟩
  have F_law_numbers44 := fun_mk (st := s_law_numbers44) l_law_numbers44 c_law_numbers44 k_law_numbers44
  have D__law_numbers : DefAt K mg "_law_numbers" s_law_numbers44 ["script", "many"] _ _ := ⟨F_law_numbers44, PySem.W.mg_of X G a_law_numbers44, F_law_numbers44.binds (ps := ["script", "many"]) fun _ _ _ _ _ _ us hl => match us, hl with | [_, _], _ => rfl⟩
  have F_law_tower46 := fun_mk (st := s_law_tower46) l_law_tower46 c_law_tower46 k_law_tower46
  have D__law_tower : DefAt K mg "_law_tower" s_law_tower46 ["numbers", "height"] _ _ := ⟨F_law_tower46, PySem.W.mg_of X G a_law_tower46, F_law_tower46.binds (ps := ["numbers", "height"]) fun _ _ _ _ _ _ us hl => match us, hl with | [_, _], _ => rfl⟩
  have F_law_drawn46 := fun_mk (st := s_law_drawn46) l_law_drawn46 c_law_drawn46 k_law_drawn46
  have D__law_drawn : DefAt K mg "_law_drawn" s_law_drawn46 ["numbers"] _ _ := ⟨F_law_drawn46, PySem.W.mg_of X G a_law_drawn46, F_law_drawn46.binds (ps := ["numbers"]) fun _ _ _ _ _ _ us hl => match us, hl with | [_], _ => rfl⟩
  have F_law_low46 := fun_mk (st := s_law_low46) l_law_low46 c_law_low46 k_law_low46
  have D__law_low : DefAt K mg "_law_low" s_law_low46 ["numbers"] _ _ := ⟨F_law_low46, PySem.W.mg_of X G a_law_low46, F_law_low46.binds (ps := ["numbers"]) fun _ _ _ _ _ _ us hl => match us, hl with | [_], _ => rfl⟩
  have F_law_good46 := fun_mk (st := s_law_good46) l_law_good46 c_law_good46 k_law_good46
  have D__law_good : DefAt K mg "_law_good" s_law_good46 ["element"] _ _ := ⟨F_law_good46, PySem.W.mg_of X G a_law_good46, F_law_good46.binds (ps := ["element"]) fun _ _ _ _ _ _ us hl => match us, hl with | [_], _ => rfl⟩
  have F_law_wide46 := fun_mk (st := s_law_wide46) l_law_wide46 c_law_wide46 k_law_wide46
  have D__law_wide : DefAt K mg "_law_wide" s_law_wide46 ["first"] _ _ := ⟨F_law_wide46, PySem.W.mg_of X G a_law_wide46, F_law_wide46.binds (ps := ["first"]) fun _ _ _ _ _ _ us hl => match us, hl with | [_], _ => rfl⟩
  have F_law_told46 := fun_mk (st := s_law_told46) l_law_told46 c_law_told46 k_law_told46
  have D__law_told : DefAt K mg "_law_told" s_law_told46 ["kind", "first", "second"] _ _ := ⟨F_law_told46, PySem.W.mg_of X G a_law_told46, F_law_told46.binds (ps := ["kind", "first", "second"]) fun _ _ _ _ _ _ us hl => match us, hl with | [_, _, _], _ => rfl⟩
  have F_law_refused46 := fun_mk (st := s_law_refused46) l_law_refused46 c_law_refused46 k_law_refused46
  have D__law_refused : DefAt K mg "_law_refused" s_law_refused46 [] _ _ := ⟨F_law_refused46, PySem.W.mg_of X G a_law_refused46, F_law_refused46.binds (ps := []) fun _ _ _ _ _ _ us hl => match us, hl with | [], _ => rfl⟩
  have F_law_agrees46 := fun_mk (st := s_law_agrees46) l_law_agrees46 c_law_agrees46 k_law_agrees46
  have D__law_agrees : DefAt K mg "_law_agrees" s_law_agrees46 ["rows"] _ _ := ⟨F_law_agrees46, PySem.W.mg_of X G a_law_agrees46, F_law_agrees46.binds (ps := ["rows"]) fun _ _ _ _ _ _ us hl => match us, hl with | [_], _ => rfl⟩
  have F_law := fun_mk (st := s_law) l_law c_law k_law
  have D_law : DefAt K mg "law" s_law ["script"] _ _ := ⟨F_law, PySem.W.mg_of X G a_law, F_law.binds (ps := ["script"]) fun _ _ _ _ _ _ us hl => match us, hl with | [_], _ => rfl⟩
  have C_NotAllowed : ClsAt K mg "NotAllowed" a_NotAllowed := ⟨PySem.W.mg_of X G x1_NotAllowed, x2_NotAllowed, x4_NotAllowed, x5_NotAllowed, ⟨y1_NotAllowed, y2_NotAllowed, x4_NotAllowed, y4_NotAllowed, y5_NotAllowed, y6, y7, y8_NotAllowed⟩⟩
  have C_ReckonError : ClsAt K mg "ReckonError" a_ReckonError := ⟨PySem.W.mg_of X G x1_ReckonError, x2_ReckonError, x4_ReckonError, x5_ReckonError, ⟨y1_ReckonError, y2_ReckonError, x4_ReckonError, y4_ReckonError, y5_ReckonError, y6, y7, y8_ReckonError⟩⟩
  have C_TooLarge : ClsAt K mg "TooLarge" a_TooLarge := ⟨PySem.W.mg_of X G x1_TooLarge, x2_TooLarge, x4_TooLarge, x5_TooLarge, ⟨y1_TooLarge, y2_TooLarge, x4_TooLarge, y4_TooLarge, y5_TooLarge, y6, y7, y8_TooLarge⟩⟩
  have b_ValueError := PySem.W.mg_none_of X G z_ValueError
  have b_abs := PySem.W.mg_none_of X G z_abs
  have b_all := PySem.W.mg_none_of X G z_all
  have b_int := PySem.W.mg_none_of X G z_int
  have b_isinstance := PySem.W.mg_none_of X G z_isinstance
  have b_len := PySem.W.mg_none_of X G z_len
  have b_list := PySem.W.mg_none_of X G z_list
  have b_max := PySem.W.mg_none_of X G z_max
  have b_range := PySem.W.mg_none_of X G z_range
  have b_sum := PySem.W.mg_none_of X G z_sum
  have b_tuple := PySem.W.mg_none_of X G z_tuple
  have b_zip := PySem.W.mg_none_of X G z_zip
  have m_FIRST_END := PySem.W.mg_of X G w_FIRST_END
  have m_INTEGER_BITS := PySem.W.mg_of X G w_INTEGER_BITS
  have m_MAX_GIVEN_BITS := PySem.W.mg_of X G w_MAX_GIVEN_BITS
  have m_MAX_HEIGHT := PySem.W.mg_of X G w_MAX_HEIGHT
  have m_MAX_SIZE := PySem.W.mg_of X G w_MAX_SIZE
  have m_MAX_TERMS := PySem.W.mg_of X G w_MAX_TERMS
  have m_NEAR_BITS := PySem.W.mg_of X G w_NEAR_BITS
  have m_PLACE_BITS := PySem.W.mg_of X G w_PLACE_BITS
  have m_FIRST_NUMBERS := PySem.W.mg_of X G v1_FIRST_NUMBERS
  have d_FIRST_NUMBERS : FirstAt K a_FIRST_NUMBERS := first_mk v2_FIRST_NUMBERS
  have m_UNIT := PySem.W.mg_of X G v1_UNIT
  have d_UNIT : UnitAt K a_UNIT := unit_mk v2_UNIT
  have hx1 := PySem.W.exm_ref x4_ReckonError y4_ReckonError x5_ReckonError s_TooLarge_ReckonError
  have hx2 := PySem.W.exm_ref x4_TooLarge y4_TooLarge x5_TooLarge s_TooLarge_TooLarge
  have hR1 := kit_ref C_TooLarge s_TooLarge_TooLarge s_TooLarge_TooLarge
  have hA1 := kit_ref C_NotAllowed s_TooLarge_TooLarge s_TooLarge_NotAllowed
  refine ⟨PySem.W.fnOf "law" "law" (defArgs s_law) (defBody s_law) (defScope s_law) .none kV_law dc_law pm_law an_law cd_law ct_law, fun s v => .of_eq rfl, fun base _ _ => ?_⟩
  have I_R := init_mk2 (st := s_c_ReckonError) i3_ReckonError i4_ReckonError i5_ReckonError i6_ReckonError
  have B_R := binds_full (I_R.binds1 (ps := ["self", "why", "word"]) 3 2 (by simp) rfl (fun T kV doc pm an cdv ct us its hl hi => match us, its, hl, hi with | [_, _, _], [_, _], _, _ => ⟨_, rfl, rfl⟩)) rfl
  have G_R := ok_c_ReckonError (P := l.prog) (w := w) (base := base) I_R b_ValueError vV
  have I_NotAllowed := init_mk1 (st := s_c_NotAllowed) i3_NotAllowed i4_NotAllowed i5_NotAllowed i6_NotAllowed
  have B_NotAllowed := binds_full (I_NotAllowed.binds1 (ps := ["self", "why"]) 2 1 (by simp) rfl (fun T kV doc pm an cdv ct us its hl hi => match us, its, hl, hi with | [_, _], [_], _, _ => ⟨_, rfl, rfl⟩)) rfl
  have X_NotAllowed : ErrC l.prog w K mg base "NotAllowed" a_NotAllowed := ⟨C_NotAllowed.m, (oex_mk o1_NotAllowed o2_NotAllowed o3_NotAllowed C_NotAllowed).1, (oex_mk o1_NotAllowed o2_NotAllowed o3_NotAllowed C_NotAllowed).2, o4_NotAllowed, _, _, i1_NotAllowed, i2_NotAllowed, B_NotAllowed, ok_c_NotAllowed (P := l.prog) (w := w) (base := base) I_NotAllowed C_ReckonError.m ⟨g1_R, g2_R⟩ ⟨g3_R, rfl⟩ i6_ReckonError G_R B_R⟩
  have I_TooLarge := init_mk1 (st := s_c_TooLarge) i3_TooLarge i4_TooLarge i5_TooLarge i6_TooLarge
  have B_TooLarge := binds_full (I_TooLarge.binds1 (ps := ["self", "why"]) 2 1 (by simp) rfl (fun T kV doc pm an cdv ct us its hl hi => match us, its, hl, hi with | [_, _], [_], _, _ => ⟨_, rfl, rfl⟩)) rfl
  have X_TooLarge : ErrC l.prog w K mg base "TooLarge" a_TooLarge := ⟨C_TooLarge.m, (oex_mk o1_TooLarge o2_TooLarge o3_TooLarge C_TooLarge).1, (oex_mk o1_TooLarge o2_TooLarge o3_TooLarge C_TooLarge).2, o4_TooLarge, _, _, i1_TooLarge, i2_TooLarge, B_TooLarge, ok_c_TooLarge (P := l.prog) (w := w) (base := base) I_TooLarge C_ReckonError.m ⟨g1_R, g2_R⟩ ⟨g3_R, rfl⟩ i6_ReckonError G_R B_R⟩
  have G_signed_places := ok_signed_places (P := l.prog) (w := w) (base := base) (k := 0) D_signed_places     
  have GH_signed_places := okh_signed_places (P := l.prog) (w := w) (base := base) (k := 0) D_signed_places     
  have G_bare_number := all_bare_number (P := l.prog) (w := w) (base := base) D_bare_number  D_signed_places G_signed_places b_tuple m_FIRST_END m_FIRST_NUMBERS d_FIRST_NUMBERS 7
  have GH_bare_number := allh_bare_number (P := l.prog) (w := w) (base := base) D_bare_number D_signed_places GH_signed_places b_tuple m_FIRST_END m_FIRST_NUMBERS d_FIRST_NUMBERS 7
  have G_value_within := all_value_within (P := l.prog) (w := w) (base := base) D_value_within    m_FIRST_END m_FIRST_NUMBERS d_FIRST_NUMBERS 45
  have GH_value_within := allh_value_within (P := l.prog) (w := w) (base := base) D_value_within   m_FIRST_END m_FIRST_NUMBERS d_FIRST_NUMBERS 45
  have G_plus_small := ok_plus_small (P := l.prog) (w := w) (base := base) (k := 45) D_plus_small  D_value_within G_value_within (by decide) D_bare_number G_bare_number (by decide) b_len  
  have GH_plus_small := okh_plus_small (P := l.prog) (w := w) (base := base) (k := 45) D_plus_small   D_value_within GH_value_within (by decide) D_bare_number GH_bare_number (by decide) b_len 
  have G_order := ok_order (P := l.prog) (w := w) (base := base) (k := 0) D_order   b_zip b_len  
  have GH_order := okh_order (P := l.prog) (w := w) (base := base) (k := 0) D_order    b_zip b_len 
  have G_gap := ok_gap (P := l.prog) (w := w) (base := base) (k := 45) D_gap  D_value_within G_value_within (by decide) b_zip b_len m_NEAR_BITS 
  have GH_gap := okh_gap (P := l.prog) (w := w) (base := base) (k := 45) D_gap   D_value_within GH_value_within (by decide) b_zip b_len m_NEAR_BITS
  have G_terms_at := ok_terms_at (P := l.prog) (w := w) (base := base) (k := 46) D_terms_at  D_signed_places G_signed_places (by decide) D_plus_small G_plus_small (by decide)   
  have GH_terms_at := okh_terms_at (P := l.prog) (w := w) (base := base) (k := 46) D_terms_at   D_signed_places GH_signed_places (by decide) D_plus_small GH_plus_small (by decide)  
  have G_settled := ok_settled (P := l.prog) (w := w) (base := base) (k := 47) D_settled  D_gap G_gap (by decide) D_terms_at G_terms_at (by decide) b_len b_tuple  
  have GH_settled := okh_settled (P := l.prog) (w := w) (base := base) (k := 47) D_settled   D_gap GH_gap (by decide) D_terms_at GH_terms_at (by decide) b_len b_tuple 
  have G_plus := ok_plus (P := l.prog) (w := w) (base := base) (k := 48) D_plus  D_value_within G_value_within (by decide) D_plus_small G_plus_small (by decide) D_order G_order (by decide) D_settled G_settled (by decide) b_len b_list m_INTEGER_BITS 
  have GH_plus := okh_plus (P := l.prog) (w := w) (base := base) (k := 48) D_plus   D_value_within GH_value_within (by decide) D_plus_small GH_plus_small (by decide) D_order GH_order (by decide) D_settled GH_settled (by decide) b_len b_list m_INTEGER_BITS
  have G_index_in := ok_index_in (P := l.prog) (w := w) (base := base) (k := 1) D_index_in  D_order G_order (by decide) b_len  
  have G_bare_sum := ok_bare_sum (P := l.prog) (w := w) (base := base) (k := 48) D_bare_sum  D_value_within G_value_within (by decide) D_index_in G_index_in (by decide) D_plus_small G_plus_small (by decide) D_settled G_settled (by decide) b_len m_PLACE_BITS 
  have G_bare_shift := ok_bare_shift (P := l.prog) (w := w) (base := base) (k := 49) D_bare_shift  D_value_within G_value_within (by decide) D_plus_small G_plus_small (by decide) D_plus G_plus (by decide) b_tuple m_INTEGER_BITS 
  have G_levels := ok_levels (P := l.prog) (w := w) (base := base) (k := 0) D_levels     
  have GH_levels := okh_levels (P := l.prog) (w := w) (base := base) (k := 0) D_levels     
  have G_is_allowed := ok_is_allowed (P := l.prog) (w := w) (base := base) (k := 1) D_is_allowed  D_levels G_levels (by decide) b_sum b_len m_MAX_SIZE m_MAX_HEIGHT 
  have GH_is_allowed := okh_is_allowed (P := l.prog) (w := w) (base := base) (k := 1) D_is_allowed   D_levels GH_levels (by decide) b_sum b_len m_MAX_SIZE m_MAX_HEIGHT
  have G_allowed := ok_allowed (P := l.prog) (w := w) (base := base) (k := 3) D_allowed C_TooLarge X_TooLarge (by decide) D_is_allowed G_is_allowed (by decide)   
  have GH_allowed := okh_allowed (P := l.prog) (w := w) (base := base) (k := 2) D_allowed C_TooLarge X_TooLarge D_is_allowed GH_is_allowed (by decide)  
  have G_sign_of := ok_sign_of (P := l.prog) (w := w) (base := base) (k := 0) D_sign_of     
  have G_compare := ok_compare (P := l.prog) (w := w) (base := base) (k := 1) D_compare  D_order G_order (by decide)   
  have G_are_apart := ok_are_apart (P := l.prog) (w := w) (base := base) (k := 46) D_are_apart  D_compare G_compare (by decide) D_plus_small G_plus_small (by decide)   
  have G_has_form := all_has_form (P := l.prog) (w := w) (base := base) D_has_form  D_sign_of G_sign_of D_are_apart G_are_apart b_all b_zip  45
  have G_check_number := ok_check_number (P := l.prog) (w := w) (base := base) (k := 92) D_check_number C_NotAllowed X_NotAllowed (by decide) D_is_allowed G_is_allowed (by decide) D_has_form G_has_form (by decide)   
  have G_of_int := ok_of_int (P := l.prog) (w := w) (base := base) (k := 8) D_of_int C_NotAllowed C_TooLarge X_NotAllowed (by decide) D_allowed G_allowed (by decide) D_bare_number G_bare_number (by decide)  m_MAX_GIVEN_BITS 
  have GH_of_int := okh_of_int (P := l.prog) (w := w) (base := base) (k := 8) D_of_int C_NotAllowed C_TooLarge X_NotAllowed D_allowed GH_allowed (by decide) D_bare_number GH_bare_number (by decide)  m_MAX_GIVEN_BITS
  have G_negate := ok_negate (P := l.prog) (w := w) (base := base) (k := 0) D_negate   b_tuple  
  have G_add := ok_add (P := l.prog) (w := w) (base := base) (k := 49) D_add C_TooLarge D_allowed G_allowed (by decide) D_plus G_plus (by decide)   
  have GH_add := okh_add (P := l.prog) (w := w) (base := base) (k := 49) D_add C_TooLarge  D_allowed GH_allowed (by decide) D_plus GH_plus (by decide)  
  have G_sum_terms := ok_sum_terms (P := l.prog) (w := w) (base := base) (k := 49) D_sum_terms C_NotAllowed C_TooLarge X_NotAllowed X_TooLarge (by decide) D_sign_of G_sign_of (by decide) D_allowed G_allowed (by decide) D_bare_sum G_bare_sum (by decide) b_len m_MAX_TERMS 
  have G_bare_plain := ok_bare_plain (P := l.prog) (w := w) (base := base) (k := 50) D_bare_plain  D_plus G_plus (by decide) D_bare_shift G_bare_shift (by decide) D_negate G_negate (by decide)   
  have G_sum_of_two := all_sum_of_two (P := l.prog) (w := w) (base := base) D_sum_of_two  D_order G_order D_plus G_plus D_bare_shift G_bare_shift D_negate G_negate   2
  have G_bare_product := ok_bare_product (P := l.prog) (w := w) (base := base) (k := 52) D_bare_product  D_sum_of_two G_sum_of_two (by decide) D_plus G_plus (by decide) D_bare_plain G_bare_plain (by decide)   
  have G_bare_inverse := ok_bare_inverse (P := l.prog) (w := w) (base := base) (k := 51) D_bare_inverse  D_bare_plain G_bare_plain (by decide) D_negate G_negate (by decide) D_plus G_plus (by decide)   
  have G_allowed_element := ok_allowed_el (P := l.prog) (w := w) (base := base) (k := 4) D_allowed_element C_TooLarge D_allowed G_allowed (by decide) b_tuple  
  have G_is_plain := ok_is_plain (P := l.prog) (w := w) (base := base) (k := 0) D_is_plain     
  have G_plain := ok_plain_elX (P := l.prog) (w := w) (base := base) (k := 51) D_plain C_TooLarge D_allowed_element G_allowed_element (by decide) D_bare_plain G_bare_plain (by decide)   
  have G_multiply_elements := ok_mul_el (P := l.prog) (w := w) (base := base) (k := 53) D_multiply_elements C_TooLarge D_allowed_element G_allowed_element (by decide) D_bare_product G_bare_product (by decide)   
  have G_inverse_element := ok_inv_el (P := l.prog) (w := w) (base := base) (k := 52) D_inverse_element C_TooLarge D_allowed_element G_allowed_element (by decide) D_bare_inverse G_bare_inverse (by decide)   
  have G__law_numbers := ok_law_numbers44 (P := l.prog) (w := w) (base := base) (k := 0) D__law_numbers   b_range b_len b_abs b_int b_max  
  have G__law_tower := ok_law_tower46 (P := l.prog) (w := w) (base := base) (k := 50) D__law_tower C_NotAllowed C_TooLarge D_of_int G_of_int (by decide) D_add G_add (by decide) b_range  
  have GH__law_tower := okh_law_tower46 (P := l.prog) (w := w) (base := base) (k := 50) D__law_tower C_NotAllowed C_TooLarge  D_of_int GH_of_int (by decide) D_add GH_add (by decide) b_range 
  have G__law_drawn := ok_law_drawn46 (P := l.prog) (w := w) (base := base) (k := 51) D__law_drawn C_NotAllowed C_TooLarge D_add G_add (by decide) D_of_int G_of_int (by decide) D__law_tower G__law_tower (by decide)   
  have GH__law_drawn := okh_law_drawn46 (P := l.prog) (w := w) (base := base) (k := 51) D__law_drawn C_NotAllowed C_TooLarge  D_add GH_add (by decide) D_of_int GH_of_int (by decide) D__law_tower GH__law_tower (by decide)  
  have G__law_low := ok_law_low46 (P := l.prog) (w := w) (base := base) (k := 51) D__law_low C_NotAllowed C_TooLarge D_of_int G_of_int (by decide) D__law_tower G__law_tower (by decide)   
  have G__law_good := ok_law_good46 (P := l.prog) (w := w) (base := base) (k := 93) D__law_good C_NotAllowed C_TooLarge D_check_number G_check_number (by decide) D_is_plain G_is_plain (by decide) D_plain G_plain (by decide)   
  have G__law_wide := ok_law_wide46 (P := l.prog) (w := w) (base := base) (k := 50) D__law_wide C_NotAllowed C_TooLarge D_of_int G_of_int (by decide) D_sum_terms G_sum_terms (by decide) b_range  
  have G__law_told := ok_law_told46 (P := l.prog) (w := w) (base := base) (k := 54) D__law_told C_NotAllowed C_ReckonError C_TooLarge D_multiply_elements G_multiply_elements (by decide) D_inverse_element G_inverse_element (by decide) D_plain G_plain (by decide) b_isinstance  hx1 hR1 hA1
  have G__law_refused := ok_law_refused46 (P := l.prog) (w := w) (base := base) (k := 55) D__law_refused C_NotAllowed C_TooLarge D__law_wide G__law_wide (by decide) D_of_int G_of_int (by decide) D_negate G_negate (by decide) D_add G_add (by decide) D__law_told G__law_told (by decide) D_plain G_plain (by decide) D_inverse_element G_inverse_element (by decide)   
  have G__law_agrees := ok_law_agrees46 (P := l.prog) (w := w) (base := base) (k := 94) D__law_agrees C_TooLarge D_multiply_elements G_multiply_elements (by decide) D__law_good G__law_good (by decide) D_inverse_element G_inverse_element (by decide)   m_UNIT d_UNIT 
  have G_law := ok_law (P := l.prog) (w := w) (base := base) (k := 95) D_law C_TooLarge D__law_numbers G__law_numbers (by decide) D__law_agrees G__law_agrees (by decide) D__law_low G__law_low (by decide) D__law_drawn G__law_drawn (by decide) D__law_refused G__law_refused (by decide) GH__law_drawn (by decide) b_range  hx2
  exact G_law.mono (by decide)
theorem head_facts {l : PySem.W.OpenLaw} {w : World} {K : PySem.W.Frag} {h : Heap} {mg : Str → Option Value} {fa : Addr} (X : K.In h) (G : h.Ns mainGlobals mg) (hfa : mg "law" = some (.ref fa)) (c : He.SaysT [] fnD tbD w K) (e : bAll (exL K) = true) :
    ∃ fd : FuncData, (∀ (s : Shared) (v : Value), BindsTo s fd ⟨[v], []⟩ [("script", v)]) ∧ ∀ base : Heap, K.In base → base.Ns mainGlobals mg → FnOk l.prog w K mg base CX0 120 fa fd ["script"] (sp_law K) := by
  obtain ⟨_, F⟩ := c.d.def_ 0 (d := d_signed_places) rfl
  obtain ⟨_, _, _, _, _, _, _, _, _, l_signed_places, c_signed_places, k_signed_places⟩ := fun0 F
  obtain ⟨_, F⟩ := c.d.def_ 1 (d := d_bare_number) rfl
  obtain ⟨_, _, _, _, _, _, _, _, _, l_bare_number, c_bare_number, k_bare_number⟩ := fun0 F
  obtain ⟨_, F⟩ := c.d.def_ 2 (d := d_value_within) rfl
  obtain ⟨_, _, _, _, _, _, _, _, _, l_value_within, c_value_within, k_value_within⟩ := fun0 F
  obtain ⟨_, F⟩ := c.d.def_ 3 (d := d_plus_small) rfl
  obtain ⟨_, _, _, _, _, _, _, _, _, l_plus_small, c_plus_small, k_plus_small⟩ := fun0 F
  obtain ⟨_, F⟩ := c.d.def_ 4 (d := d_order) rfl
  obtain ⟨_, _, _, _, _, _, _, _, _, l_order, c_order, k_order⟩ := fun0 F
  obtain ⟨_, F⟩ := c.d.def_ 5 (d := d_gap) rfl
  obtain ⟨_, _, _, _, _, _, _, _, _, l_gap, c_gap, k_gap⟩ := fun0 F
  obtain ⟨_, F⟩ := c.d.def_ 6 (d := d_terms_at) rfl
  obtain ⟨_, _, _, _, _, _, _, _, _, l_terms_at, c_terms_at, k_terms_at⟩ := fun0 F
  obtain ⟨_, F⟩ := c.d.def_ 7 (d := d_settled) rfl
  obtain ⟨_, _, _, _, _, _, _, _, _, l_settled, c_settled, k_settled⟩ := fun0 F
  obtain ⟨_, F⟩ := c.d.def_ 8 (d := d_plus) rfl
  obtain ⟨_, _, _, _, _, _, _, _, _, l_plus, c_plus, k_plus⟩ := fun0 F
  obtain ⟨_, F⟩ := c.d.def_ 9 (d := d_index_in) rfl
  obtain ⟨_, _, _, _, _, _, _, _, _, l_index_in, c_index_in, k_index_in⟩ := fun0 F
  obtain ⟨_, F⟩ := c.d.def_ 10 (d := d_bare_sum) rfl
  obtain ⟨_, _, _, _, _, _, _, _, _, l_bare_sum, c_bare_sum, k_bare_sum⟩ := fun0 F
  obtain ⟨_, F⟩ := c.d.def_ 11 (d := d_bare_shift) rfl
  obtain ⟨_, _, _, _, _, _, _, _, _, l_bare_shift, c_bare_shift, k_bare_shift⟩ := fun0 F
  obtain ⟨_, F⟩ := c.d.def_ 12 (d := d_levels) rfl
  obtain ⟨_, _, _, _, _, _, _, _, _, l_levels, c_levels, k_levels⟩ := fun0 F
  obtain ⟨_, F⟩ := c.d.def_ 13 (d := d_is_allowed) rfl
  obtain ⟨_, _, _, _, _, _, _, _, _, l_is_allowed, c_is_allowed, k_is_allowed⟩ := fun0 F
  obtain ⟨_, F⟩ := c.d.def_ 14 (d := d_allowed) rfl
  obtain ⟨_, _, _, _, _, _, _, _, _, l_allowed, c_allowed, k_allowed⟩ := fun0 F
  obtain ⟨_, F⟩ := c.d.def_ 15 (d := d_sign_of) rfl
  obtain ⟨_, _, _, _, _, _, _, _, _, l_sign_of, c_sign_of, k_sign_of⟩ := fun0 F
  obtain ⟨_, F⟩ := c.d.def_ 16 (d := d_compare) rfl
  obtain ⟨_, _, _, _, _, _, _, _, _, l_compare, c_compare, k_compare⟩ := fun0 F
  obtain ⟨_, F⟩ := c.d.def_ 17 (d := d_are_apart) rfl
  obtain ⟨_, _, _, _, _, _, _, _, _, l_are_apart, c_are_apart, k_are_apart⟩ := fun0 F
  obtain ⟨_, F⟩ := c.d.def_ 18 (d := d_has_form) rfl
  obtain ⟨_, _, _, _, _, _, _, _, _, l_has_form, c_has_form, k_has_form⟩ := fun0 F
  obtain ⟨_, F⟩ := c.d.def_ 19 (d := d_check_number) rfl
  obtain ⟨_, _, _, _, _, _, _, _, _, l_check_number, c_check_number, k_check_number⟩ := fun0 F
  obtain ⟨_, F⟩ := c.d.def_ 20 (d := d_of_int) rfl
  obtain ⟨_, _, _, _, _, _, _, _, _, l_of_int, c_of_int, k_of_int⟩ := fun0 F
  obtain ⟨_, F⟩ := c.d.def_ 21 (d := d_negate) rfl
  obtain ⟨_, _, _, _, _, _, _, _, _, l_negate, c_negate, k_negate⟩ := fun0 F
  obtain ⟨_, F⟩ := c.d.def_ 22 (d := d_add) rfl
  obtain ⟨_, _, _, _, _, _, _, _, _, l_add, c_add, k_add⟩ := fun0 F
  obtain ⟨_, F⟩ := c.d.def_ 23 (d := d_sum_terms) rfl
  obtain ⟨_, _, _, _, _, _, _, _, _, l_sum_terms, c_sum_terms, k_sum_terms⟩ := fun0 F
  obtain ⟨_, F⟩ := c.d.def_ 24 (d := d_bare_plain) rfl
  obtain ⟨_, _, _, _, _, _, _, _, _, l_bare_plain, c_bare_plain, k_bare_plain⟩ := fun0 F
  obtain ⟨_, F⟩ := c.d.def_ 25 (d := d_sum_of_two) rfl
  obtain ⟨_, _, _, _, _, _, _, _, _, l_sum_of_two, c_sum_of_two, k_sum_of_two⟩ := fun0 F
  obtain ⟨_, F⟩ := c.d.def_ 26 (d := d_bare_product) rfl
  obtain ⟨_, _, _, _, _, _, _, _, _, l_bare_product, c_bare_product, k_bare_product⟩ := fun0 F
  obtain ⟨_, F⟩ := c.d.def_ 27 (d := d_bare_inverse) rfl
  obtain ⟨_, _, _, _, _, _, _, _, _, l_bare_inverse, c_bare_inverse, k_bare_inverse⟩ := fun0 F
  obtain ⟨_, F⟩ := c.d.def_ 28 (d := d_allowed_el) rfl
  obtain ⟨_, _, _, _, _, _, _, _, _, l_allowed_el, c_allowed_el, k_allowed_el⟩ := fun0 F
  obtain ⟨_, F⟩ := c.d.def_ 29 (d := d_is_plain) rfl
  obtain ⟨_, _, _, _, _, _, _, _, _, l_is_plain, c_is_plain, k_is_plain⟩ := fun0 F
  obtain ⟨_, F⟩ := c.d.def_ 30 (d := d_plain_elX) rfl
  obtain ⟨_, _, _, _, _, _, _, _, _, l_plain_elX, c_plain_elX, k_plain_elX⟩ := fun0 F
  obtain ⟨_, F⟩ := c.d.def_ 31 (d := d_mul_el) rfl
  obtain ⟨_, _, _, _, _, _, _, _, _, l_mul_el, c_mul_el, k_mul_el⟩ := fun0 F
  obtain ⟨_, F⟩ := c.d.def_ 32 (d := d_inv_el) rfl
  obtain ⟨_, _, _, _, _, _, _, _, _, l_inv_el, c_inv_el, k_inv_el⟩ := fun0 F
  obtain ⟨_, F⟩ := c.d.def_ 33 (d := d_law_numbers44) rfl
  obtain ⟨_, _, _, _, _, _, _, _, _, l_law_numbers44, c_law_numbers44, k_law_numbers44⟩ := fun0 F
  obtain ⟨_, F⟩ := c.d.def_ 34 (d := d_law_tower46) rfl
  obtain ⟨_, _, _, _, _, _, _, _, _, l_law_tower46, c_law_tower46, k_law_tower46⟩ := fun0 F
  obtain ⟨_, F⟩ := c.d.def_ 35 (d := d_law_drawn46) rfl
  obtain ⟨_, _, _, _, _, _, _, _, _, l_law_drawn46, c_law_drawn46, k_law_drawn46⟩ := fun0 F
  obtain ⟨_, F⟩ := c.d.def_ 36 (d := d_law_low46) rfl
  obtain ⟨_, _, _, _, _, _, _, _, _, l_law_low46, c_law_low46, k_law_low46⟩ := fun0 F
  obtain ⟨_, F⟩ := c.d.def_ 37 (d := d_law_good46) rfl
  obtain ⟨_, _, _, _, _, _, _, _, _, l_law_good46, c_law_good46, k_law_good46⟩ := fun0 F
  obtain ⟨_, F⟩ := c.d.def_ 38 (d := d_law_wide46) rfl
  obtain ⟨_, _, _, _, _, _, _, _, _, l_law_wide46, c_law_wide46, k_law_wide46⟩ := fun0 F
  obtain ⟨_, F⟩ := c.d.def_ 39 (d := d_law_told46) rfl
  obtain ⟨_, _, _, _, _, _, _, _, _, l_law_told46, c_law_told46, k_law_told46⟩ := fun0 F
  obtain ⟨_, F⟩ := c.d.def_ 40 (d := d_law_refused46) rfl
  obtain ⟨_, _, _, _, _, _, _, _, _, l_law_refused46, c_law_refused46, k_law_refused46⟩ := fun0 F
  obtain ⟨_, F⟩ := c.d.def_ 41 (d := d_law_agrees46) rfl
  obtain ⟨_, _, _, _, _, _, _, _, _, l_law_agrees46, c_law_agrees46, k_law_agrees46⟩ := fun0 F
  obtain ⟨_, F⟩ := c.d.def_ 42 (d := d_law) rfl
  obtain ⟨_, _, _, _, _, _, _, _, _, l_law, c_law, k_law⟩ := fun0 F
  obtain ⟨_, F⟩ := c.d.def_ 43 (d := d_c_ReckonError) rfl
  obtain ⟨_, _, _, _, _, _, _, _, _, _, _, _, _, _, _, _, i3_ReckonError, i4_ReckonError, i5_ReckonError, i6_ReckonError⟩ := funS2 F
  obtain ⟨_, F⟩ := c.d.def_ 44 (d := d_c_NotAllowed) rfl
  obtain ⟨_, _, _, _, _, _, _, _, _, _, _, _, _, _, _, i3_NotAllowed, i4_NotAllowed, i5_NotAllowed, i6_NotAllowed⟩ := funS F
  obtain ⟨_, F⟩ := c.d.def_ 45 (d := d_c_TooLarge) rfl
  obtain ⟨_, _, _, _, _, _, _, _, _, _, _, _, _, _, _, i3_TooLarge, i4_TooLarge, i5_TooLarge, i6_TooLarge⟩ := funS F
  obtain ⟨_, w_FIRST_END⟩ := conN_I (bAll_at e 0 rfl)
  obtain ⟨_, w_INTEGER_BITS⟩ := conN_I (bAll_at e 1 rfl)
  obtain ⟨_, w_MAX_GIVEN_BITS⟩ := conN_I (bAll_at e 2 rfl)
  obtain ⟨_, w_MAX_HEIGHT⟩ := conN_I (bAll_at e 3 rfl)
  obtain ⟨_, w_MAX_SIZE⟩ := conN_I (bAll_at e 4 rfl)
  obtain ⟨_, w_MAX_TERMS⟩ := conN_I (bAll_at e 5 rfl)
  obtain ⟨_, w_NEAR_BITS⟩ := conN_I (bAll_at e 6 rfl)
  obtain ⟨_, w_PLACE_BITS⟩ := conN_I (bAll_at e 7 rfl)
  obtain ⟨_, _, _, _, _, _, _, _, _, _, _, _, _, _, o1_NotAllowed, o2_NotAllowed⟩ := errN_ok (bAll_at e 8 rfl)
  obtain ⟨_, _, _, _, _, _, _, _, _, _, _, _, _, _, o1_TooLarge, o2_TooLarge⟩ := errN_ok (bAll_at e 9 rfl)
  exact all_mk X G hfa (He.eqO_ok (bAll_at e 10 rfl))
    l_signed_places
    c_signed_places
    k_signed_places
    (He.eqO_ok (bAll_at e 11 rfl))
    l_bare_number
    c_bare_number
    k_bare_number
    (He.eqO_ok (bAll_at e 12 rfl))
    l_value_within
    c_value_within
    k_value_within
    (He.eqO_ok (bAll_at e 13 rfl))
    l_plus_small
    c_plus_small
    k_plus_small
    (He.eqO_ok (bAll_at e 14 rfl))
    l_order
    c_order
    k_order
    (He.eqO_ok (bAll_at e 15 rfl))
    l_gap
    c_gap
    k_gap
    (He.eqO_ok (bAll_at e 16 rfl))
    l_terms_at
    c_terms_at
    k_terms_at
    (He.eqO_ok (bAll_at e 17 rfl))
    l_settled
    c_settled
    k_settled
    (He.eqO_ok (bAll_at e 18 rfl))
    l_plus
    c_plus
    k_plus
    (He.eqO_ok (bAll_at e 19 rfl))
    l_index_in
    c_index_in
    k_index_in
    (He.eqO_ok (bAll_at e 20 rfl))
    l_bare_sum
    c_bare_sum
    k_bare_sum
    (He.eqO_ok (bAll_at e 21 rfl))
    l_bare_shift
    c_bare_shift
    k_bare_shift
    (He.eqO_ok (bAll_at e 22 rfl))
    l_levels
    c_levels
    k_levels
    (He.eqO_ok (bAll_at e 23 rfl))
    l_is_allowed
    c_is_allowed
    k_is_allowed
    (He.eqO_ok (bAll_at e 24 rfl))
    l_allowed
    c_allowed
    k_allowed
    (He.eqO_ok (bAll_at e 25 rfl))
    l_sign_of
    c_sign_of
    k_sign_of
    (He.eqO_ok (bAll_at e 26 rfl))
    l_compare
    c_compare
    k_compare
    (He.eqO_ok (bAll_at e 27 rfl))
    l_are_apart
    c_are_apart
    k_are_apart
    (He.eqO_ok (bAll_at e 28 rfl))
    l_has_form
    c_has_form
    k_has_form
    (He.eqO_ok (bAll_at e 29 rfl))
    l_check_number
    c_check_number
    k_check_number
    (He.eqO_ok (bAll_at e 30 rfl))
    l_of_int
    c_of_int
    k_of_int
    (He.eqO_ok (bAll_at e 31 rfl))
    l_negate
    c_negate
    k_negate
    (He.eqO_ok (bAll_at e 32 rfl))
    l_add
    c_add
    k_add
    (He.eqO_ok (bAll_at e 33 rfl))
    l_sum_terms
    c_sum_terms
    k_sum_terms
    (He.eqO_ok (bAll_at e 34 rfl))
    l_bare_plain
    c_bare_plain
    k_bare_plain
    (He.eqO_ok (bAll_at e 35 rfl))
    l_sum_of_two
    c_sum_of_two
    k_sum_of_two
    (He.eqO_ok (bAll_at e 36 rfl))
    l_bare_product
    c_bare_product
    k_bare_product
    (He.eqO_ok (bAll_at e 37 rfl))
    l_bare_inverse
    c_bare_inverse
    k_bare_inverse
    (He.eqO_ok (bAll_at e 38 rfl))
    l_allowed_el
    c_allowed_el
    k_allowed_el
    (He.eqO_ok (bAll_at e 39 rfl))
    l_is_plain
    c_is_plain
    k_is_plain
    (He.eqO_ok (bAll_at e 40 rfl))
    l_plain_elX
    c_plain_elX
    k_plain_elX
    (He.eqO_ok (bAll_at e 41 rfl))
    l_mul_el
    c_mul_el
    k_mul_el
    (He.eqO_ok (bAll_at e 42 rfl))
    l_inv_el
    c_inv_el
    k_inv_el
    (He.eqO_ok (bAll_at e 43 rfl))
    l_law_numbers44
    c_law_numbers44
    k_law_numbers44
    (He.eqO_ok (bAll_at e 44 rfl))
    l_law_tower46
    c_law_tower46
    k_law_tower46
    (He.eqO_ok (bAll_at e 45 rfl))
    l_law_drawn46
    c_law_drawn46
    k_law_drawn46
    (He.eqO_ok (bAll_at e 46 rfl))
    l_law_low46
    c_law_low46
    k_law_low46
    (He.eqO_ok (bAll_at e 47 rfl))
    l_law_good46
    c_law_good46
    k_law_good46
    (He.eqO_ok (bAll_at e 48 rfl))
    l_law_wide46
    c_law_wide46
    k_law_wide46
    (He.eqO_ok (bAll_at e 49 rfl))
    l_law_told46
    c_law_told46
    k_law_told46
    (He.eqO_ok (bAll_at e 50 rfl))
    l_law_refused46
    c_law_refused46
    k_law_refused46
    (He.eqO_ok (bAll_at e 51 rfl))
    l_law_agrees46
    c_law_agrees46
    k_law_agrees46
    (He.eqO_ok (bAll_at e 52 rfl))
    l_law
    c_law
    k_law
    (He.eqO_ok (bAll_at e 53 rfl))
    (bAll_at e 54 rfl)
    (of_decide_eq_true (bAll_at e 55 rfl))
    (of_decide_eq_true (bAll_at e 56 rfl))
    (He.eqO_ok (bAll_at e 57 rfl))
    (He.eqO_ok (bAll_at e 58 rfl))
    (bAll_at e 59 rfl)
    (He.eqO_ok (bAll_at e 60 rfl))
    (of_decide_eq_true (bAll_at e 61 rfl))
    (He.eqO_ok (bAll_at e 62 rfl))
    (bAll_at e 63 rfl)
    (of_decide_eq_true (bAll_at e 64 rfl))
    (of_decide_eq_true (bAll_at e 65 rfl))
    (He.eqO_ok (bAll_at e 66 rfl))
    (He.eqO_ok (bAll_at e 67 rfl))
    (bAll_at e 68 rfl)
    (He.eqO_ok (bAll_at e 69 rfl))
    (of_decide_eq_true (bAll_at e 70 rfl))
    (He.eqO_ok (bAll_at e 71 rfl))
    (bAll_at e 72 rfl)
    (of_decide_eq_true (bAll_at e 73 rfl))
    (of_decide_eq_true (bAll_at e 74 rfl))
    (He.eqO_ok (bAll_at e 75 rfl))
    (He.eqO_ok (bAll_at e 76 rfl))
    (bAll_at e 77 rfl)
    (He.eqO_ok (bAll_at e 78 rfl))
    (of_decide_eq_true (bAll_at e 79 rfl))
    (fndN_ok (bAll_at e 80 rfl))
    (He.eqO_ok (bAll_at e 81 rfl))
    (of_decide_eq_true (bAll_at e 82 rfl))
    i3_ReckonError
    i4_ReckonError
    i5_ReckonError
    i6_ReckonError
    (bAll_at e 83 rfl)
    (He.eqO_ok (bAll_at e 84 rfl))
    (fndN_ok (bAll_at e 85 rfl))
    (He.eqO_ok (bAll_at e 86 rfl))
    (of_decide_eq_true (bAll_at e 87 rfl))
    i3_NotAllowed
    i4_NotAllowed
    i5_NotAllowed
    i6_NotAllowed
    o1_NotAllowed
    o2_NotAllowed
    (He.eqO_ok (bAll_at e 88 rfl))
    (He.eqO_ok (bAll_at e 89 rfl))
    (He.eqO_ok (bAll_at e 90 rfl))
    (of_decide_eq_true (bAll_at e 91 rfl))
    i3_TooLarge
    i4_TooLarge
    i5_TooLarge
    i6_TooLarge
    o1_TooLarge
    o2_TooLarge
    (He.eqO_ok (bAll_at e 92 rfl))
    (He.eqO_ok (bAll_at e 93 rfl))
    (He.eqO_ok (bAll_at e 94 rfl))
    (of_decide_eq_true (bAll_at e 95 rfl))
    (of_decide_eq_true (bAll_at e 96 rfl))
    (of_decide_eq_true (bAll_at e 97 rfl))
    (of_decide_eq_true (bAll_at e 98 rfl))
    (He.eqO_ok (bAll_at e 99 rfl))
    (He.eqO_ok (bAll_at e 100 rfl))
    (He.eqO_ok (bAll_at e 101 rfl))
    (He.eqO_ok (bAll_at e 102 rfl))
    (He.eqO_ok (bAll_at e 103 rfl))
    (He.eqO_ok (bAll_at e 104 rfl))
    (He.eqO_ok (bAll_at e 105 rfl))
    (He.eqO_ok (bAll_at e 106 rfl))
    (He.eqO_ok (bAll_at e 107 rfl))
    (He.eqO_ok (bAll_at e 108 rfl))
    (He.eqO_ok (bAll_at e 109 rfl))
    (He.eqO_ok (bAll_at e 110 rfl))
    w_FIRST_END
    w_INTEGER_BITS
    w_MAX_GIVEN_BITS
    w_MAX_HEIGHT
    w_MAX_SIZE
    w_MAX_TERMS
    w_NEAR_BITS
    w_PLACE_BITS
    (He.eqO_ok (bAll_at e 111 rfl))
    ((datN_ok (bAll_at e 112 rfl)).trans (congrArg some (by kernel_rfl)))
    (He.eqO_ok (bAll_at e 113 rfl))
    ((datN_ok (bAll_at e 114 rfl)).trans (congrArg some (by kernel_rfl)))
end Sk
open PySem PySem.W PyProof.Rows
set_option maxRecDepth 100000 in
set_option maxHeartbeats 0 in
theorem PySem.Challenge.cw_sandreckoner_k46_great_elements_holds : PySem.Challenge.rw_sandreckoner_k46_great_elements.Holds := by
  w_on; o_law
  refine HandSHeadRun.head_any (r := Sk.rowL) (q := Sk.viewL) (H := Sk.hookN Sk.adL Sk.fnD Sk.tbD Sk.exL) (ob := Sk.obN Sk.adL Sk.fnD Sk.tbD Sk.exL) (M := 20000) (loose := Sk.looseL) (d := HandSHeadRun.topDef Sk.rowL.prog 63) (kwd := []) (fun s => Sk.obN_eq s) (by kernel_rfl) (fun s => by kernel_rfl) Sk.head_run (by kernel_rfl) (by kernel_rfl) (by kernel_rfl) (by rfl) (by first | assumption | decide +kernel) (by decide +kernel) ⟨rfl, rfl, rfl, rfl, rfl, by decide +kernel⟩ ?hw ?hc
  case hw => w_witness2
  case hc => exact L2.walk_ofE (n := 63) (k := 120) (x := "script") (CX := L2.CX0) rfl (by decide) rfl ⟨rfl, by decide, by decide⟩ (fun w mg fa h Y G hmg => by
    obtain ⟨K, KX, c, e⟩ := Y
    obtain ⟨fd, hb, hF⟩ := Sk.head_facts (l := PySem.Challenge.rw_sandreckoner_k46_great_elements) KX G hmg c e
    exact ⟨K, fd, Sk.sp_law K, KX, hb, fun H a ns hl _ hS => ⟨.ref a, _, rfl, ⟨a, ns, rfl, hS, hl, rfl⟩, fun _ _ _ z => z⟩, hF⟩) fun _ _ _ _ z => z
