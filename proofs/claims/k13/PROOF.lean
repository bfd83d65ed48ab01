import PyProof.Rows.All
import Wide.All
import OpenK.AllK
import Wide.FinOn
import PySem.Challenge.RW_consol_k13_whole_interest_adds_up
import HandS.ForMost
import HandS.Wide
import HandS.Gcd
import HandS.IsInst
import HandS.Defaults
import HandS.EndBits
import HandS.ForExc
import HandS.ExcIs
import HandS.Zip
import HandS.TupLe
import HandS.TryMany
import HandS.CallLocal
import HandS.CallSlots
import KE.KTupSum
import HandS.Walk
import HandS.ExcInit
import HandS.Star
import KE.GoesRaise
set_option Elab.async false
set_option linter.all false
set_option maxRecDepth 100000
set_option exponentiation.threshold 20000
namespace Cs
/-- the pair a fraction is -/
theorem divInt_pos (p q : Int) (hq : 0 < q) : (Rat.divInt p q).num = p / (Nat.gcd p.natAbs q.natAbs : Nat) ∧ ((Rat.divInt p q).den : Int) = q / (Nat.gcd p.natAbs q.natAbs : Nat) := by
  obtain ⟨n, rfl⟩ : ∃ n : Nat, q = (n : Int) := ⟨q.toNat, by omega⟩
  have hn : n ≠ 0 := by omega
  have e : Rat.divInt p (n : Int) = Rat.normalize p n hn := by
    rw [Rat.divInt_ofNat, ← Rat.normalize_eq_mkRat]
  rw [e, Rat.normalize_eq]
  refine ⟨rfl, ?_⟩
  show ((n / Nat.gcd p.natAbs n : Nat) : Int) = (n : Int) / (Nat.gcd p.natAbs (n : Int).natAbs : Nat)
  rw [Int.natAbs_natCast, Int.natCast_ediv]
theorem neg_ediv_dvd {a g : Int} (h : g ∣ a) : (-a) / g = -(a / g) := by
  obtain ⟨k, rfl⟩ := h
  by_cases hg : g = 0
  · subst hg; simp
  · rw [← Int.mul_neg, Int.mul_ediv_cancel_left _ hg, Int.mul_ediv_cancel_left _ hg]
theorem fdiv_neg_dvd {a g : Int} (hg : 0 < g) (h : g ∣ a) : a.fdiv (-g) = -(a / g) := by
  rw [Int.fdiv_neg (by omega), if_pos h, Int.fdiv_eq_ediv_of_nonneg _ (by omega)]
theorem gcd_dvd_p (p q : Int) : ((Nat.gcd p.natAbs q.natAbs : Nat) : Int) ∣ p := Int.ofNat_dvd_left.mpr (Nat.gcd_dvd_left _ _)
theorem gcd_dvd_q (p q : Int) : ((Nat.gcd p.natAbs q.natAbs : Nat) : Int) ∣ q := Int.ofNat_dvd_left.mpr (Nat.gcd_dvd_right _ _)
theorem gcd_pos (p q : Int) (hq : q ≠ 0) : 0 < ((Nat.gcd p.natAbs q.natAbs : Nat) : Int) := by
  have : 0 < Nat.gcd p.natAbs q.natAbs := Nat.gcd_pos_of_pos_right _ (by omega)
  omega
/-- what fraction computes -/
theorem frac_num (p q : Int) (hq : q ≠ 0) : (p.fdiv (if q < 0 then -((Nat.gcd p.natAbs q.natAbs : Nat) : Int) else ((Nat.gcd p.natAbs q.natAbs : Nat) : Int))) = (Rat.divInt p q).num := by
  have hg := gcd_pos p q hq
  split
  · rename_i h
    rw [fdiv_neg_dvd hg (gcd_dvd_p p q)]
    have e : Rat.divInt p q = Rat.divInt (-p) (-q) := by rw [Rat.neg_divInt_neg]
    rw [e, (divInt_pos (-p) (-q) (by omega)).1, Int.natAbs_neg, Int.natAbs_neg, neg_ediv_dvd (gcd_dvd_p p q)]
  · rename_i h
    rw [(divInt_pos p q (by omega)).1, Int.fdiv_eq_ediv_of_nonneg _ (by omega)]
theorem frac_den (p q : Int) (hq : q ≠ 0) : (q.fdiv (if q < 0 then -((Nat.gcd p.natAbs q.natAbs : Nat) : Int) else ((Nat.gcd p.natAbs q.natAbs : Nat) : Int))) = ((Rat.divInt p q).den : Int) := by
  have hg := gcd_pos p q hq
  split
  · rename_i h
    rw [fdiv_neg_dvd hg (gcd_dvd_q p q)]
    have e : Rat.divInt p q = Rat.divInt (-p) (-q) := by rw [Rat.neg_divInt_neg]
    rw [e, (divInt_pos (-p) (-q) (by omega)).2, Int.natAbs_neg, Int.natAbs_neg, neg_ediv_dvd (gcd_dvd_q p q)]
  · rename_i h
    rw [(divInt_pos p q (by omega)).2, Int.fdiv_eq_ediv_of_nonneg _ (by omega)]
/-! sizes -/
def Sz (n : Nat) (r : Rat) : Prop := r.num.natAbs < 2 ^ n ∧ r.den < 2 ^ n
theorem Sz.mono {n m : Nat} {r : Rat} (h : Sz n r) (k : n ≤ m) : Sz m r :=
  ⟨Nat.lt_of_lt_of_le h.1 (Nat.pow_le_pow_right (by decide) k), Nat.lt_of_lt_of_le h.2 (Nat.pow_le_pow_right (by decide) k)⟩
theorem sz_div {n : Nat} {p q : Int} (hq : q ≠ 0) (hp : p.natAbs < 2 ^ n) (h : q.natAbs < 2 ^ n) : Sz n (Rat.divInt p q) := by
  have hg := gcd_pos p q hq
  have key : ∀ p q : Int, 0 < q → p.natAbs < 2 ^ n → q.natAbs < 2 ^ n → Sz n (Rat.divInt p q) := by
    intro p q hq hp h
    have e1 := (divInt_pos p q hq).1
    have e2 := (divInt_pos p q hq).2
    refine ⟨?_, ?_⟩
    · rw [e1]
      refine Nat.lt_of_le_of_lt ?_ hp
      rw [Int.natAbs_ediv_of_dvd (gcd_dvd_p p q)]
      exact Nat.div_le_self _ _
    · have : (Rat.divInt p q).den = q.natAbs / (Nat.gcd p.natAbs q.natAbs) := by
        have : (((Rat.divInt p q).den : Int)).natAbs = (q / (Nat.gcd p.natAbs q.natAbs : Nat)).natAbs := by rw [e2]
        rw [Int.natAbs_natCast, Int.natAbs_ediv_of_dvd (gcd_dvd_q p q), Int.natAbs_natCast] at this
        exact this
      rw [this]
      exact Nat.lt_of_le_of_lt (Nat.div_le_self _ _) h
  by_cases hn : q < 0
  · have e : Rat.divInt p q = Rat.divInt (-p) (-q) := by rw [Rat.neg_divInt_neg]
    rw [e]
    exact key _ _ (by omega) (by rw [Int.natAbs_neg]; exact hp) (by rw [Int.natAbs_neg]; exact h)
  · exact key p q (by omega) hp h
theorem pow_lt {i j : Int} {a b : Nat} (ha : i.natAbs < 2 ^ a) (hb : j.natAbs < 2 ^ b) : (i * j).natAbs < 2 ^ (a + b) := by
  rw [Int.natAbs_mul, Nat.pow_add]
  exact Nat.mul_lt_mul'' ha hb
theorem add_lt {i j : Int} {a : Nat} (ha : i.natAbs < 2 ^ a) (hb : j.natAbs < 2 ^ a) : (i + j).natAbs < 2 ^ (a + 1) := by
  have : (2 : Nat) ^ (a + 1) = 2 ^ a * 2 := Nat.pow_succ ..
  omega
theorem sub_lt {i j : Int} {a : Nat} (ha : i.natAbs < 2 ^ a) (hb : j.natAbs < 2 ^ a) : (i - j).natAbs < 2 ^ (a + 1) := by
  have : (2 : Nat) ^ (a + 1) = 2 ^ a * 2 := Nat.pow_succ ..
  omega
theorem den_ne (r : Rat) : (r.den : Int) ≠ 0 := by have := r.den_nz; omega
theorem den_pos (r : Rat) : 0 < (r.den : Int) := by have := r.den_nz; omega
theorem add_div (r s : Rat) : Rat.divInt (r.num * s.den + s.num * r.den) (r.den * s.den) = r + s := by
  rw [← Rat.divInt_add_divInt _ _ (den_ne r) (den_ne s), Rat.num_divInt_den, Rat.num_divInt_den]
theorem sub_div (r s : Rat) : Rat.divInt (r.num * s.den - s.num * r.den) (r.den * s.den) = r - s := by
  rw [← Rat.divInt_sub_divInt _ _ (den_ne r) (den_ne s), Rat.num_divInt_den, Rat.num_divInt_den]
theorem mul_div (r s : Rat) : Rat.divInt (r.num * s.num) (r.den * s.den) = r * s := by
  rw [← Rat.divInt_mul_divInt, Rat.num_divInt_den, Rat.num_divInt_den]
theorem div_div (r s : Rat) : Rat.divInt (r.num * s.den) (r.den * s.num) = r / s := by
  rw [Rat.div_def, ← Rat.divInt_mul_divInt, Rat.num_divInt_den]
  rw [Rat.inv_def]
theorem num_ne {s : Rat} (h : s.num ≠ 0) : s ≠ 0 := fun e => h (by rw [e]; rfl)
/-! Euclid's steps -/
def EG (g : Nat) (N i : Nat) (a b : Nat) : Prop := Nat.gcd a b = g ∧ (i = 0 → a * b < 2 ^ N) ∧ (0 < i → b < a ∧ a * b < 2 ^ (N + 1 - i))
theorem EG.start {N a b : Nat} (h : a * b < 2 ^ N) : EG (Nat.gcd a b) N 0 a b := ⟨rfl, fun _ => h, fun z => absurd z (by decide)⟩
theorem EG.step {g N i a b : Nat} (h : EG g N i a b) (hb : 0 < b) (hi : i ≤ N) : EG g N (i + 1) b (a % b) := by
  obtain ⟨h1, h2, h3⟩ := h
  have hlt : a % b < b := Nat.mod_lt _ hb
  refine ⟨?_, fun z => absurd z (by omega), fun _ => ⟨hlt, ?_⟩⟩
  · rw [← h1, Nat.gcd_comm a b, Nat.gcd_rec b a, Nat.gcd_comm]
  · by_cases h0 : i = 0
    · subst h0
      have e := h2 rfl
      rw [show N + 1 - (0 + 1) = N by omega]
      refine Nat.lt_of_le_of_lt ?_ e
      rw [Nat.mul_comm a b]
      exact Nat.mul_le_mul_left _ (Nat.mod_le _ _)
    · obtain ⟨hba, hp⟩ := h3 (by omega)
      have e1 : N + 1 - i = (N + 1 - (i + 1)) + 1 := by omega
      rw [e1, Nat.pow_succ] at hp
      have hd := Nat.div_add_mod a b
      have hq : 1 ≤ a / b := Nat.div_pos (Nat.le_of_lt hba) hb
      have ha : b + a % b ≤ a := by
        have : b * 1 ≤ b * (a / b) := Nat.mul_le_mul_left _ hq
        omega
      have : b * (a % b) * 2 ≤ a * b := by
        have h5 : b * (a % b) + b * (a % b) ≤ b * (b + a % b) := by
          rw [Nat.mul_add]
          exact Nat.add_le_add_right (Nat.mul_le_mul_left _ (Nat.le_of_lt hlt)) _
        have h6 : b * (b + a % b) ≤ b * a := Nat.mul_le_mul_left _ ha
        rw [Nat.mul_comm a b]
        omega
      omega
theorem EG.zero {g N i a : Nat} (h : EG g N i a 0) : a = g := by
  have := h.1
  rwa [Nat.gcd_zero_right] at this
theorem EG.last {g N a b : Nat} (h : EG g N (N + 1) a b) : b = 0 := by
  obtain ⟨h1, h2⟩ := h.2.2 (by omega)
  rw [show N + 1 - (N + 1) = 0 by omega, Nat.pow_zero] at h2
  cases b with
  | zero => rfl
  | succ b =>
    have : 1 * 1 ≤ a * (b + 1) := Nat.mul_le_mul (by omega) (by omega)
    omega
end Cs
set_option maxHeartbeats 4000000
namespace Cs
open PySem PySem.Spec PyProof.Rows L2
/-! ### operators at any size -/
def CDivA (_ j : Int) : Prop := j ≠ 0 ∧ j.natAbs < 2 ^ 9000
section
variable {X : Cx}
theorem op_fdivA : OpR X (binaryOp .FloorDiv) (rI CDivA fun i j => .int (i.fdiv j)) := opI fun _ _ _ _ _ _ _ hc q =>
  floordiv_int hc.1 q (.inl (PyProof.noPylong_of_log2 (PySem.Flt.log2_lt_of (by decide) hc.2)))
theorem op_mulA : OpR X (binaryOp .Mult) (rI IntMulOk fun i j => .int (i * j)) := opI fun _ _ _ _ _ _ _ hc q => mul_int q hc
end
theorem mulL {i j : Int} (h : i.natAbs < 2 ^ 64) : IntMulOk i j := CMul.ok (.inl (by omega))
theorem mulR {i j : Int} (h : j.natAbs < 2 ^ 64) : IntMulOk i j := CMul.ok (.inr (by omega))
theorem mulB {i j : Int} {a : Nat} (hi : i.natAbs < 2 ^ a) (hj : j.natAbs < 2 ^ a) (h0 : 0 < a) (h : a ≤ 500000) : IntMulOk i j := (wide_mul hi hj h0 h0 (by omega)).ok
/-! ### a def that may be called -/
def Cal (P : Program) (w : World) (K : PySem.W.Frag) (mg : Str → Option Value) (base : Heap) (k : Nat) (x : Str) (ps : List Str) (sp : Sp) : Prop :=
  ∃ (f : Addr) (fd : FuncData), FnOk P w K mg base CX0 k f fd ps sp ∧ mg x = some (.ref f) ∧ PySem.W.keepIn K (.ref f) = true ∧ Binds K fd ps []
/-- a def of the text, with its place and how it binds -/
def FunG (K : PySem.W.Frag) (mg : Str → Option Value) (x : Str) (st : Stmt) (ps : List Str) : Prop :=
  ∃ (f : Addr) (fd : FuncData), Fun K x x st f fd ∧ mg x = some (.ref f) ∧ Binds K fd ps []
section
variable {P : Program} {w : World} {K : PySem.W.Frag} {mg : Str → Option Value} {base : Heap} {k j : Nat} {x : Str} {ps : List Str} {sp sp' : Sp} {st : Stmt}
theorem Cal.of (F : FunG K mg x st ps) (h : ∀ {f : Addr} {fd : FuncData}, Fun K x x st f fd → FnOk P w K mg base CX0 k f fd ps sp) : Cal P w K mg base k x ps sp := by
  obtain ⟨f, fd, F, g, b⟩ := F
  exact ⟨f, fd, h F, g, F.kp, b⟩
theorem Cal.mono (c : Cal P w K mg base j x ps sp) (h : j ≤ k) : Cal P w K mg base k x ps sp := by
  obtain ⟨f, fd, F, g⟩ := c
  exact ⟨f, fd, F.mono h, g⟩
theorem Cal.imp (c : Cal P w K mg base k x ps sp) (h : ∀ vs H Q E, sp' vs H Q E → sp vs H Q E) : Cal P w K mg base k x ps sp' := by
  obtain ⟨f, fd, F, g⟩ := c
  exact ⟨f, fd, F.imp h, g⟩
theorem FunG.of {f : Addr} {fd : FuncData} (F : Fun K x x st f fd) (g : mg x = some (.ref f)) (b : Binds K fd ps []) : FunG K mg x st ps := ⟨f, fd, F, g, b⟩
end
section
variable {X : Cx} {k : Nat} {x : Str} {ps : List Str} {sp : Sp} {p pos : Pos} {e : Expr} {es : List Expr} {t : TA}
theorem pe_cal (c : Cal X.prog X.w X.K X.mg X.base k x ps sp) (hr : Room k X.A) (hg : Gl X x) (ha : PA X (e :: es) t) (hdb : (x == ("__debug__" : Str)) = false := by decide)
    (he : starEach (e :: es) X.env = (false, eval e X.env) :: starEach es X.env := by rfl) (hpl : (backTo pos (starEach es X.env)).any (·.1) = false := by rfl) :
    PE X (.Call (.Name x p) (e :: es) [] pos) (tCall sp [] E0 t) := by
  obtain ⟨f, fd, F, g, kp, b⟩ := c
  exact pe_call F hr hg g kp b .nil pass0 ha hdb he hpl
end
/-! ### heaps -/
/-- all but d is as it was -/
def But (d : Addr) (H H' : Hp) : Prop := ∀ b o, b ≠ d → H b = some o → H' b = some o
theorem But.refl {d : Addr} {H : Hp} : But d H H := fun _ _ _ h => h
theorem But.trans {d : Addr} {H H1 H2 : Hp} (a : But d H H1) (b : But d H1 H2) : But d H H2 := fun c o n h => b c o n (a c o n h)
theorem But.upd {d : Addr} {H : Hp} {o : HO} : But d H (upd H d o) := fun b o' n h => by rw [upd_ne n]; exact h
theorem Same.but {d : Addr} {H H' : Hp} (s : Same H H') : But d H H' := fun b o _ h => s b o h
theorem Same.new {H : Hp} {p : Addr} {o : HO} (h : H p = none) : Same H (upd H p o) := fun b x e => by
  rw [upd_ne (ne_of_none e h)]
  exact e
theorem But.seq {K : PySem.W.Frag} {d a : Addr} {xs : List V} {H H' : Hp} (b : But d H H') (n : a ≠ d) (h : SqL K H a xs) : SqL K H' a xs := by
  rcases h with (h | ⟨o, h⟩) | h
  · exact .inl (.inl (b _ _ n h))
  · exact .inl (.inr ⟨o, b _ _ n h⟩)
  · exact .inr h
theorem But.tup {d a : Addr} {xs : List V} {H H' : Hp} {ys : List V} (b : But d H H') (hd : H d = some (.lst ys)) (h : H a = some (.tup xs)) : H' a = some (.tup xs) :=
  b a _ (ne_of h hd (fun z => nomatch z)) h
/-! ### the deck: the script's list, the next cell, what is left of a cell, the state -/
def DeckO (l : Addr) (b c e : Int) : HO := .lst [.ref l, .int b, .int c, .int e]
def Deck (K : PySem.W.Frag) (H : Hp) (d : Addr) : Prop := ∃ (l : Addr) (ns : List Int) (b c e : Int), H d = some (DeckO l b c e) ∧ SqL K H l (ns.map V.int) ∧ l ≠ d ∧ 0 ≤ b
theorem Deck.same {K : PySem.W.Frag} {H H' : Hp} {d : Addr} (s : Same H H') (h : Deck K H d) : Deck K H' d := by
  obtain ⟨l, ns, b, c, e, h1, h2, h3, h4⟩ := h
  exact ⟨l, ns, b, c, e, s _ _ h1, s.seq h2, h3, h4⟩
theorem Deck.lst {K : PySem.W.Frag} {H : Hp} {d : Addr} (h : Deck K H d) : ∃ ys, H d = some (.lst ys) := by
  obtain ⟨l, ns, b, c, e, h1, h2, h3, h4⟩ := h
  exact ⟨_, h1⟩
theorem But.tupD {K : PySem.W.Frag} {d a : Addr} {xs : List V} {H H' : Hp} (b : But d H H') (hd : Deck K H d) (h : H a = some (.tup xs)) : H' a = some (.tup xs) := by
  obtain ⟨ys, e⟩ := hd.lst
  exact b.tup e h
theorem deck_of {K : PySem.W.Frag} {H H1 : Hp} {d l : Addr} {ns : List Int} {b c e : Int} (hl : SqL K H l (ns.map V.int)) (ne : l ≠ d) (hb : But d H H1) (h : H1 d = some (DeckO l b c e)) (b0 : 0 ≤ b) : Deck K H1 d :=
  ⟨l, ns, b, c, e, h, hb.seq ne hl, ne, b0⟩
theorem cell_at {ns : List Int} {b : Int} (b0 : 0 ≤ b) (h : b < (ns.length : Int)) : ∃ z, atI (ns.map V.int) b = some (.int z) := by
  obtain ⟨j, rfl⟩ : ∃ j : Nat, b = (j : Int) := ⟨b.toNat, by omega⟩
  have hj : j < ns.length := by omega
  exact ⟨ns[j], atI_nat (by rw [List.getElem?_map, List.getElem?_eq_getElem hj]; rfl)⟩
def spDeck (K : PySem.W.Frag) : Sp := fun vs H Q _ => ∃ (a : Addr) (ns : List Int), vs = [.ref a] ∧ SqL K H a (ns.map V.int) ∧ ∀ d H', Same H H' → H d = none → Deck K H' d → Q (.ref d) H'
def spDraw (K : PySem.W.Frag) : Sp := fun vs H Q _ => ∃ (d : Addr) (m : Int), vs = [.ref d, .int m] ∧ 0 < m ∧ m.natAbs < 2 ^ 8000 ∧ Deck K H d ∧ ∀ v H', 0 ≤ v → v < m → But d H H' → Deck K H' d → Q (.int v) H'
/-! ### fractions -/
def nd (r : Rat) : HO := .tup [.int r.num, .int (r.den : Int)]
def spFrac : Sp := fun vs H Q _ => ∃ p q : Int, vs = [.int p, .int q] ∧ q ≠ 0 ∧ q.natAbs < 2 ^ 9000 ∧ ∀ t H', Same H H' → H t = none → H' t = some (nd (Rat.divInt p q)) → Q (.ref t) H'
def spGcd : Sp := fun vs H Q _ => ∃ a b : Nat, vs = [.int a, .int b] ∧ a < 2 ^ 2400 ∧ b < 2 ^ 2400 ∧ Q (.int (Nat.gcd a b : Nat)) H
def spRatio : Sp := fun vs H Q _ => ∃ p q : Int, vs = [.int p, .int q] ∧ q ≠ 0 ∧ p.natAbs < 2 ^ 2400 ∧ q.natAbs < 2 ^ 2400 ∧ ∀ t H', Same H H' → H t = none → H' t = some (nd (Rat.divInt p q)) → Q (.ref t) H'
def spOp (f : Rat → Rat → Rat) (ok : Rat → Rat → Prop) : Sp := fun vs H Q _ => ∃ (a b : Addr) (r s : Rat), vs = [.ref a, .ref b] ∧ H a = some (nd r) ∧ H b = some (nd s) ∧ Sz 1000 r ∧ Sz 1000 s ∧ ok r s ∧ ∀ t H', Same H H' → H t = none → H' t = some (nd (f r s)) → Q (.ref t) H'
def spCmp (f : Rat → Rat → V) : Sp := fun vs H Q _ => ∃ (a b : Addr) (r s : Rat), vs = [.ref a, .ref b] ∧ H a = some (nd r) ∧ H b = some (nd s) ∧ Sz 1000 r ∧ Sz 1000 s ∧ ∀ H', Same H H' → Q (f r s) H'
/-- -1, 0 or 1 -/
def cmpR (r s : Rat) : Int := (r.num * s.den - s.num * r.den).sign
theorem cmpR_eq {r s : Rat} (h : cmpR r s = 0) : r = s := by
  have e : r.num * s.den = s.num * r.den := by
    have := Int.sign_eq_zero_iff_zero.mp h
    omega
  have h1 : ¬ r < s := fun z => by have := (Rat.lt_iff r s).mp z; omega
  have h2 : ¬ s < r := fun z => by have := (Rat.lt_iff s r).mp z; omega
  grind
theorem cmpR_neg (r s : Rat) : cmpR s r = -cmpR r s := by
  unfold cmpR
  rw [← Int.sign_neg]
  congr 1
  omega
theorem cmpR_lt {r s : Rat} : cmpR r s = -1 ↔ r < s := by
  unfold cmpR
  rw [Rat.lt_iff, Int.sign_eq_neg_one_iff_neg]
  omega
theorem cmpR_gt {r s : Rat} : cmpR r s = 1 ↔ s < r := by
  unfold cmpR
  rw [Rat.lt_iff, Int.sign_eq_one_iff_pos]
  omega
theorem cmpR_three (r s : Rat) : cmpR r s = -1 ∨ cmpR r s = 0 ∨ cmpR r s = 1 := by
  unfold cmpR
  rcases Int.lt_trichotomy (r.num * s.den - s.num * r.den) 0 with h | h | h
  · exact .inl (Int.sign_eq_neg_one_iff_neg.mpr h)
  · rw [h]; exact .inr (.inl rfl)
  · exact .inr (.inr (Int.sign_eq_one_iff_pos.mpr h))
theorem cmpR_add (r s t : Rat) : cmpR (r + t) (s + t) = cmpR r s := by
  rcases cmpR_three r s with h | h | h
  · rw [h, cmpR_lt]
    have := cmpR_lt.mp h
    grind
  · rw [cmpR_eq h]
    unfold cmpR
    rw [Int.sub_self, Int.sub_self]
  · rw [h, cmpR_gt]
    have := cmpR_gt.mp h
    grind
theorem sign_le (d : Int) : d.sign ≤ 0 ↔ ¬ 0 < d := by
  rcases Int.lt_trichotomy d 0 with h | h | h
  · rw [Int.sign_eq_neg_one_iff_neg.mpr h]; omega
  · subst h; decide
  · rw [Int.sign_eq_one_iff_pos.mpr h]; omega
theorem sign_if (d : Int) : (if decide (0 < d) = true then (1 : Int) else 0) - (if decide (d < 0) = true then 1 else 0) = d.sign := by
  rcases Int.lt_trichotomy d 0 with h | h | h
  · rw [Int.sign_eq_neg_one_iff_neg.mpr h, decide_eq_true h, decide_eq_false (by omega)]; rfl
  · subst h; rfl
  · rw [Int.sign_eq_one_iff_pos.mpr h, decide_eq_true h, decide_eq_false (by omega)]; rfl
theorem sign_if2 (d : Int) : (if decide (d < 0) = true then (-1 : Int) else if decide (0 < d) = true then 1 else 0) = d.sign := by
  rcases Int.lt_trichotomy d 0 with h | h | h
  · rw [Int.sign_eq_neg_one_iff_neg.mpr h, decide_eq_true h]; rfl
  · subst h; rfl
  · rw [Int.sign_eq_one_iff_pos.mpr h, decide_eq_true h, decide_eq_false (by omega)]; rfl
/-! ### isinstance -/
theorem kit_ii : kitB "int" "int" = some true := by decide +kernel
theorem kit_ib : kitB "int" "bool" = some false := by decide +kernel
theorem kit_it : kitB "int" "tuple" = some false := by decide +kernel
theorem kit_bi : kitB "bool" "int" = some true := by decide +kernel
theorem kit_bb : kitB "bool" "bool" = some true := by decide +kernel
theorem kit_bt : kitB "bool" "tuple" = some false := by decide +kernel
theorem kit_tt : kitB "tuple" "tuple" = some true := by decide +kernel
/-- same as the law's own: ints, truths, fractions -/
def spSame0 : Sp := fun vs H Q _ => (∃ i j : Int, vs = [.int i, .int j] ∧ Q (.bl (decide (i = j))) H) ∨ (∃ a b : Bool, vs = [.bl a, .bl b] ∧ Q (.bl (decide (a = b))) H)
def spSame : Sp := fun vs H Q E => spSame0 vs H Q E ∨ ∃ (a b : Addr) (r s : Rat), vs = [.ref a, .ref b] ∧ H a = some (nd r) ∧ H b = some (nd s) ∧ Q (.bl (decide (r = s))) H
def spNumber (K : PySem.W.Frag) : Sp := fun vs H Q _ => ∃ d : Addr, vs = [.ref d] ∧ Deck K H d ∧ ∀ (t : Addr) (r : Rat) (H' : Hp), But d H H' → Deck K H' d → Sz 42 r → H' t = some (nd r) → Q (.ref t) H'
def spSmaller : Sp := fun vs H Q _ => ∃ (a b : Addr) (r s : Rat), vs = [.ref a, .ref b] ∧ H a = some (nd r) ∧ H b = some (nd s) ∧ Sz 1000 r ∧ Sz 1000 s ∧ ∀ H', Same H H' → Q (if cmpR r s ≤ 0 then .ref a else .ref b) H'
def spGreater : Sp := fun vs H Q _ => ∃ (a b : Addr) (r s : Rat), vs = [.ref a, .ref b] ∧ H a = some (nd r) ∧ H b = some (nd s) ∧ Sz 1000 r ∧ Sz 1000 s ∧ ∀ H', Same H H' → Q (if 0 ≤ cmpR r s then .ref a else .ref b) H'
def spWhole : Sp := fun vs H Q _ => ∃ (a : Addr) (r : Rat), vs = [.ref a] ∧ H a = some (nd r) ∧ Sz 1000 r ∧ Q (.int (r.num / (r.den : Int))) H
def spIsInt : Sp := fun vs H Q _ => ∃ i : Int, vs = [.int i] ∧ Q (.bl true) H
theorem nd_int (n : Int) : nd (n : Rat) = .tup [.int n, .int 1] := rfl
theorem nd_inj {r s : Rat} (h1 : r.num = s.num) (h2 : (r.den : Int) = s.den) : r = s := Rat.ext h1 (by omega)
theorem Sz.int {k : Nat} {n : Int} (h : n.natAbs < 2 ^ k) (hk : 0 < k) : Sz k (n : Rat) := ⟨h, Nat.one_lt_two_pow (by omega)⟩
theorem Sz.nn {n : Nat} {r : Rat} (h : Sz n r) : r.num.natAbs < 2 ^ n := h.1
theorem Sz.dd {n : Nat} {r : Rat} (h : Sz n r) : ((r.den : Int)).natAbs < 2 ^ n := by rw [Int.natAbs_natCast]; exact h.2
theorem mulZ {i j : Int} (hi : i.natAbs < 2 ^ 1000) (hj : j.natAbs < 2 ^ 1000) : IntMulOk i j := mulB hi hj (by decide) (by decide)
theorem lt9 {i : Int} {a : Nat} (h : i.natAbs < 2 ^ a) (k : a ≤ 9000) : i.natAbs < 2 ^ 9000 := Nat.lt_of_lt_of_le h (Nat.pow_le_pow_right (by decide) k)
theorem fdivI {i j : Int} {V' : Int → V} : (fun i j => V' (i.fdiv j)) i j = V' (i.fdiv j) := rfl
theorem sz_add {n : Nat} {r s : Rat} (h : Sz n r) (g : Sz n s) : Sz (n + n + 1) (r + s) := by
  rw [← add_div]
  exact sz_div (Int.mul_ne_zero (den_ne r) (den_ne s)) (add_lt (pow_lt h.nn g.dd) (pow_lt g.nn h.dd)) (Nat.lt_trans (pow_lt h.dd g.dd) (Nat.pow_lt_pow_right (by decide) (by omega)))
theorem sz_mul {n : Nat} {r s : Rat} (h : Sz n r) (g : Sz n s) : Sz (n + n) (r * s) := by
  rw [← mul_div]
  exact sz_div (Int.mul_ne_zero (den_ne r) (den_ne s)) (pow_lt h.nn g.nn) (pow_lt h.dd g.dd)
theorem sz_sub {n : Nat} {r s : Rat} (h : Sz n r) (g : Sz n s) : Sz (n + n + 1) (r - s) := by
  rw [← sub_div]
  exact sz_div (Int.mul_ne_zero (den_ne r) (den_ne s)) (sub_lt (pow_lt h.nn g.dd) (pow_lt g.nn h.dd)) (Nat.lt_trans (pow_lt h.dd g.dd) (Nat.pow_lt_pow_right (by decide) (by omega)))
theorem sz_quo {n : Nat} {r s : Rat} (h : Sz n r) (g : Sz n s) (hs : s.num ≠ 0) : Sz (n + n) (r / s) := by
  rw [← div_div]
  exact sz_div (Int.mul_ne_zero (den_ne r) hs) (pow_lt h.nn g.dd) (pow_lt h.dd g.nn)
theorem sz_zero {n : Nat} (h : 0 < n) : Sz n 0 := ⟨Nat.two_pow_pos n, Nat.one_lt_two_pow (by omega)⟩
def spLaw (K : PySem.W.Frag) : Sp := fun vs H Q _ => ∃ (a : Addr) (ns : List Int), vs = [.ref a] ∧ SqL K H a (ns.map V.int) ∧ ns.length ≤ 63 ∧ ∀ H', Q (.bl true) H'
/-! ### what the top has written -/
section
variable {K : PySem.W.Frag} {h : Heap} {mg : Str → Option Value}
theorem FunG.mk {x : Str} {st : Stmt} {ps : List Str} {f : Addr} {od an : Option Addr} {sl : Array (Option Value)} {oc kV dc pm cd ct : Value}
    (hb : ∀ (kV doc pm : Value) (an : Option Addr) (cdv ct : Value) (us : List Value), us.length = ps.length → bindArgs (PySem.W.fnOf x x (defArgs st) (defBody st) (defScope st) .none kV doc pm an cdv ct) ⟨us, []⟩ = pure (ps.zip us))
    (X : K.In h) (G : h.Ns mainGlobals mg)
    (a : PySem.W.nsIn K mainGlobals x = some (some (.ref f))) (l : K.lookup f = some ⟨oc, od, .func (PySem.W.fnOf x x (defArgs st) (defBody st) (defScope st) .none kV dc pm an cd ct), sl⟩) (c : PySem.W.codeIn K cd x = true) (k : PySem.W.keepIn K (.ref f) = true) : FunG K mg x st ps := by
  have F := fun_mk (st := st) l c k
  exact ⟨f, _, F, PySem.W.mg_of X G a, F.binds hb⟩
/-- a def of two parameters, the second one with an int as its default, called with both -/
def FunD2 (K : PySem.W.Frag) (mg : Str → Option Value) (x : Str) (st : Stmt) (ps : List Str) : Prop :=
  ∃ (f : Addr) (fd : FuncData), FunD K x x (defArgs st) (defBody st) (defScope st) [.int 1] [] f fd ∧ mg x = some (.ref f) ∧ PySem.W.keepIn K (.ref f) = true ∧ Binds K fd ps []
theorem FunD2.mk {x p q : Str} {st : Stmt} {f T : Addr} {od an dT : Option Addr} {sl slT : Array (Option Value)} {oc kV dc pm cd ct cT : Value} {nT : Nat} {tk : Tok}
    (hb : ∀ (T : Addr) (kV doc pm : Value) (an : Option Addr) (cdv ct : Value) (us its : List Value), us.length = 2 → its.length = ([V.int 1]).length →
      ∃ k, bindArgs (PySem.W.fnOf x x (defArgs st) (defBody st) (defScope st) (.ref T) kV doc pm an cdv ct) ⟨us, []⟩ = seqItems? (.ref T) >>= k ∧ k (some its.toArray) = pure ([p, q].zip (us ++ its.drop 1)))
    (X : K.In h) (G : h.Ns mainGlobals mg)
    (a : PySem.W.nsIn K mainGlobals x = some (some (.ref f))) (l : K.lookup f = some ⟨oc, od, .func (PySem.W.fnOf x x (defArgs st) (defBody st) (defScope st) (.ref T) kV dc pm an cd ct), sl⟩) (c : PySem.W.codeIn K cd x = true) (k : PySem.W.keepIn K (.ref f) = true)
    (lT : K.lookup T = some ⟨cT, dT, .seq #[.int 1 tk] nT, slT⟩) : FunD2 K mg x st [p, q] := by
  have F : FunD K x x (defArgs st) (defBody st) (defScope st) [.int 1] [] f _ := ⟨⟨oc, od, .ref T, kV, dc, pm, an, cd, ct, sl, rfl, l, c, .inr ⟨by simp, T, _, [.int 1 tk], nT, rfl, lT, rfl, .cons ⟨tk, rfl⟩ .nil⟩, .inl rfl⟩, k⟩
  obtain ⟨ds, hv, hB⟩ := F.binds1 (ps := [p, q]) 2 1 (by simp) rfl hb
  cases hv
  exact ⟨f, _, F, PySem.W.mg_of X G a, k, hB⟩
end
end Cs
set_option maxHeartbeats 4000000
namespace Cs
open PySem PySem.Spec PyProof.Rows L2
theorem sz_add2 {n m : Nat} {r s : Rat} (h : Sz n r) (g : Sz m s) : Sz (n + m + 1) (r + s) := by
  rw [← add_div]
  exact sz_div (Int.mul_ne_zero (den_ne r) (den_ne s)) (add_lt (pow_lt h.nn g.dd) (by rw [Nat.add_comm n m]; exact pow_lt g.nn h.dd)) (Nat.lt_trans (pow_lt h.dd g.dd) (Nat.pow_lt_pow_right (by decide) (by omega)))
theorem sz_mul2 {n m : Nat} {r s : Rat} (h : Sz n r) (g : Sz m s) : Sz (n + m) (r * s) := by
  rw [← mul_div]
  exact sz_div (Int.mul_ne_zero (den_ne r) (den_ne s)) (pow_lt h.nn g.nn) (pow_lt h.dd g.dd)
theorem sz_sub2 {n m : Nat} {r s : Rat} (h : Sz n r) (g : Sz m s) : Sz (n + m + 1) (r - s) := by
  rw [← sub_div]
  exact sz_div (Int.mul_ne_zero (den_ne r) (den_ne s)) (sub_lt (pow_lt h.nn g.dd) (by rw [Nat.add_comm n m]; exact pow_lt g.nn h.dd)) (Nat.lt_trans (pow_lt h.dd g.dd) (Nat.pow_lt_pow_right (by decide) (by omega)))
theorem sz_quo2 {n m : Nat} {r s : Rat} (h : Sz n r) (g : Sz m s) (hs : s.num ≠ 0) : Sz (n + m) (r / s) := by
  rw [← div_div]
  exact sz_div (Int.mul_ne_zero (den_ne r) hs) (pow_lt h.nn g.dd) (pow_lt h.dd g.nn)
theorem neg_num (r : Rat) : (-r).num = -r.num := rfl
theorem neg_den (r : Rat) : (-r).den = r.den := rfl
theorem sz_neg {n : Nat} {r : Rat} (h : Sz n r) : Sz n (-r) := ⟨by rw [neg_num, Int.natAbs_neg]; exact h.1, h.2⟩
theorem nd_neg (r : Rat) : nd (-r) = .tup [.int (-r.num), .int (r.den : Int)] := rfl
/-! ### an expression whose value is a fraction; a test -/
def EQ (te : TE) (σ : L2.St) (H : Hp) (r : Rat) : Prop := ∀ H1, Same H H1 → ∀ Q : VK, (∀ p H2, Same H1 H2 → H2 p = some (nd r) → Q (.ref p) H2) → te σ H1 Q
def EI (te : TE) (σ : L2.St) (H : Hp) (v : V) : Prop := ∀ H1, Same H H1 → ∀ Q : VK, (∀ H2, Same H1 H2 → Q v H2) → te σ H1 Q
def ET (tt : TT) (σ : L2.St) (H : Hp) (b : Bool) : Prop := ∀ H1, Same H H1 → ∀ Q : Bool → Hp → Prop, (∀ H2, Same H1 H2 → Q b H2) → tt σ H1 Q
section
variable {K : PySem.W.Frag} {σ : L2.St} {H : Hp} {ta tb : TE} {t u : TT} {r s : Rat} {E : XK}
theorem eq_var {i : Nat} {p : Addr} (h : σ[i]? = some (some (.ref p))) (hp : H p = some (nd r)) : EQ (tVar i) σ H r := fun H1 e Q q => ⟨.ref p, h, q p H1 (Same.refl H1) (e _ _ hp)⟩
theorem eq_op {f : Rat → Rat → Rat} {ok : Rat → Rat → Prop} (ha : EQ ta σ H r) (hb : EQ tb σ H s) (zr : Sz 1000 r) (zs : Sz 1000 s) (ho : ok r s) : EQ (tCall (spOp f ok) [] E (tCons ta (tCons tb tNil))) σ H (f r s) := fun H1 e Q q =>
  ha H1 e _ fun p H2 e2 hp => hb H2 (e.trans e2) _ fun p' H3 e3 hp' => ⟨p, p', r, s, rfl, e3 _ _ hp, hp', zr, zs, ho, fun t H4 e4 _ h4 => q t H4 ((e2.trans e3).trans e4) h4⟩
def spUn (f : Rat → Rat) : Sp := fun vs H Q _ => ∃ (a : Addr) (r : Rat), vs = [.ref a] ∧ H a = some (nd r) ∧ ∀ t H', Same H H' → H t = none → H' t = some (nd (f r)) → Q (.ref t) H'
theorem eq_un {f : Rat → Rat} (ha : EQ ta σ H r) : EQ (tCall (spUn f) [] E (tCons ta tNil)) σ H (f r) := fun H1 e Q q =>
  ha H1 e _ fun p H2 e2 hp => ⟨p, r, rfl, hp, fun t H4 e4 _ h4 => q t H4 (e2.trans e4) h4⟩
theorem eq_is (h : EQ ta σ H r) (e : r = s) : EQ ta σ H s := e ▸ h
/-- a pair written out -/
theorem eq_pair {p q : Int} (ha : EI ta σ H (.int p)) (hb : EI tb σ H (.int q)) (hp : r.num = p) (hq : (r.den : Int) = q) : EQ (tTup (tCons ta (tCons tb tNil))) σ H r := fun H1 e Q k =>
  ha H1 e _ fun H2 e2 => hb H2 (e.trans e2) _ fun H3 e3 => ⟨by show 2 ≤ sizeLine; decide, fun t ht => k t _ ((e2.trans e3).trans (Same.new ht)) (upd_same.trans (by rw [nd, hp, hq]))⟩
theorem ei_c {v : V} : EI (tC v) σ H v := fun H1 _ _ q => q H1 (Same.refl H1)
theorem ei_var {i : Nat} {v : V} (h : σ[i]? = some (some v)) : EI (tVar i) σ H v := fun H1 _ _ q => ⟨v, h, q H1 (Same.refl H1)⟩
theorem ei_fst {i : Nat} {p : Addr} (h : σ[i]? = some (some (.ref p))) (hp : H p = some (nd r)) : EI (tOp (rIxT K) (tVar i) (tC (.int 0))) σ H (.int r.num) := fun H1 e _ q =>
  ⟨_, h, _, _, _, _, rfl, rfl, SqT.of (e _ _ hp), rfl, q H1 (Same.refl H1)⟩
theorem ei_snd {i : Nat} {p : Addr} (h : σ[i]? = some (some (.ref p))) (hp : H p = some (nd r)) : EI (tOp (rIxT K) (tVar i) (tC (.int 1))) σ H (.int r.den) := fun H1 e _ q =>
  ⟨_, h, _, _, _, _, rfl, rfl, SqT.of (e _ _ hp), rfl, q H1 (Same.refl H1)⟩
theorem ei_neg {i : Int} (h : EI ta σ H (.int i)) : EI (tUn (rU fun i => .int (-i)) ta) σ H (.int (-i)) := fun H1 e _ q => h H1 e _ fun H2 e2 => ⟨i, rfl, q H2 e2⟩
theorem ei_mul {i j : Int} (h : EI ta σ H (.int i)) (g : EI tb σ H (.int j)) (k : IntMulOk i j) : EI (tOp (rI IntMulOk fun i j => .int (i * j)) ta tb) σ H (.int (i * j)) := fun H1 e _ q => h H1 e _ fun H2 e2 => g H2 (e.trans e2) _ fun H3 e3 => ⟨i, j, rfl, rfl, k, q H3 (e2.trans e3)⟩
theorem ei_add {i j : Int} (h : EI ta σ H (.int i)) (g : EI tb σ H (.int j)) : EI (tOp (rI0 fun i j => .int (i + j)) ta tb) σ H (.int (i + j)) := fun H1 e _ q => h H1 e _ fun H2 e2 => g H2 (e.trans e2) _ fun H3 e3 => ⟨i, j, rfl, rfl, q H3 (e2.trans e3)⟩
theorem ei_sub {i j : Int} (h : EI ta σ H (.int i)) (g : EI tb σ H (.int j)) : EI (tOp (rI0 fun i j => .int (i - j)) ta tb) σ H (.int (i - j)) := fun H1 e _ q => h H1 e _ fun H2 e2 => g H2 (e.trans e2) _ fun H3 e3 => ⟨i, j, rfl, rfl, q H3 (e2.trans e3)⟩
theorem eq_ratio {p q : Int} (ha : EI ta σ H (.int p)) (hb : EI tb σ H (.int q)) (q0 : q ≠ 0) (hp : p.natAbs < 2 ^ 2400) (hq : q.natAbs < 2 ^ 2400) : EQ (tCall spRatio [] E (tCons ta (tCons tb tNil))) σ H (Rat.divInt p q) := fun H1 e Q k =>
  ha H1 e _ fun H2 e2 => hb H2 (e.trans e2) _ fun H3 e3 => ⟨p, q, rfl, q0, hp, hq, fun t H4 e4 _ h4 => k t H4 ((e2.trans e3).trans e4) h4⟩
/-- not _law_same(x, y), of equal fractions -/
theorem et_same (ha : EQ ta σ H r) (hb : EQ tb σ H r) : ET (tNot (tB (tCall spSame [] E (tCons ta (tCons tb tNil))))) σ H false := fun H1 e Q k =>
  ha H1 e _ fun p H2 e2 hp => hb H2 (e.trans e2) _ fun p' H3 e3 hp' => .inr ⟨p, p', r, r, rfl, e3 _ _ hp, hp', true, by rw [decide_eq_true rfl], k H3 (e2.trans e3)⟩
theorem et_ne (ha : EQ ta σ H r) (hb : EQ tb σ H r) : ET (tTest (tOp (rNeD K) ta tb)) σ H false := fun H1 e Q k =>
  ha H1 e _ fun p H2 e2 hp => hb H2 (e.trans e2) _ fun p' H3 e3 hp' =>
    ⟨.tuple [.int r.num, .int r.den], .tuple [.int r.num, .int r.den], .tup (SqT.of (e3 _ _ hp)) (.cons (.int _) (.cons (.int _) .nil)), .tup (SqT.of hp') (.cons (.int _) (.cons (.int _) .nil)), by rfl, by rfl, false, by
      rw [show PyData.eqv (.tuple [.int r.num, .int r.den]) (.tuple [.int r.num, .int r.den]) = true from by simp [PyData.eqv, PyData.eqvAll]]; rfl, k H3 (e2.trans e3)⟩
theorem ei_eq (ha : EQ ta σ H r) (hb : EQ tb σ H r) : EI (tOp (rEqD K) ta tb) σ H (.bl true) := fun H1 e Q k =>
  ha H1 e _ fun p H2 e2 hp => hb H2 (e.trans e2) _ fun p' H3 e3 hp' =>
    ⟨.tuple [.int r.num, .int r.den], .tuple [.int r.num, .int r.den], .tup (SqT.of (e3 _ _ hp)) (.cons (.int _) (.cons (.int _) .nil)), .tup (SqT.of hp') (.cons (.int _) (.cons (.int _) .nil)), by rfl, by rfl, by
      rw [show PyData.eqv (.tuple [.int r.num, .int r.den]) (.tuple [.int r.num, .int r.den]) = true from by simp [PyData.eqv, PyData.eqvAll]]; exact k H3 (e2.trans e3)⟩
theorem et_or {b : Bool} (h : ET t σ H false) (g : ET u σ H b) : ET (tOr t u) σ H b := fun H1 e Q k => h H1 e _ fun H2 e2 => iteF (g H2 (e.trans e2) _ fun H3 e3 => k H3 (e2.trans e3))
theorem st_no {t' u' : TS} {D : Ends} {H1 : Hp} (h : ET t σ H false) (e : Same H H1) (k : ∀ H2, Same H H2 → u' D σ H2) : tIfS t t' u' D σ H1 := h H1 e _ fun H2 e2 => iteF (k H2 (e.trans e2))
theorem st_yes {t' u' : TS} {D : Ends} {H1 : Hp} (h : ET t σ H true) (e : Same H H1) (k : ∀ H2, Same H H2 → t' D σ H2) : tIfS t t' u' D σ H1 := h H1 e _ fun H2 e2 => iteT (k H2 (e.trans e2))
theorem ei_andV {x : Bool} (h : EI ta σ H (.bl true)) (g : EI tb σ H (.bl x)) : EI (tAndV ta tb) σ H (.bl x) := fun H1 e Q k => h H1 e _ fun H2 e2 => ⟨true, rfl, iteT (g H2 (e.trans e2) _ fun H3 e3 => k H3 (e2.trans e3))⟩
end
/-! ### an own error, raised without arguments -/
section
variable {X : Cx} {C : Addr} {bmB : List Value} {B newId initId : String}
theorem pmk_own0 {x : Str} {p pos : Pos} (F : ExcBaseFacts B newId initId bmB) (q : PySem.W.excIn X.K C bmB newId = true) (gC : X.mg x = some (.ref C)) (kC : PySem.W.keepIn X.K (.ref C) = true) (r : Raises X (.ref C)) (hg : Gl X x)
    (hdb : (x == ("__debug__" : Str)) = false := by decide) : PMk X (.Call (.Name x p) [] [] pos) (fun _ H Q => Q (.ref C) none H) := by
  intro pins s σ H Q I h
  refine wpAny_Call_Name_kw (ld_glob I hg gC ?_ hdb)
  refine PySem.W.callWith_K0 I.kIn kC ?_
  show wpAny _ _ (call (.ref C) []) _ _ _
  obtain ⟨bm, N, nm, qn, bs, hdct, sn, sub, ab, col, dd, k0, k1, k2, k3, k5, mN, hC, hN, hni, T⟩ := exc_obj I.kIn q
  refine wpAny_call_exc_subT F T hC hN hni (fun h' e hm => ?_) (by show 0 ≤ sizeLine; exact Nat.zero_le _)
  exact mk_of I hm r h (I.hok.gone hm.new)
end
/-- what the written part says of an own error class without __init__ over ValueError (perhaps by another own class) -/
structure ErrC (K : PySem.W.Frag) (mg : Str → Option Value) (x : Str) (C : Addr) : Prop where
  g : mg x = some (.ref C)
  ex : PySem.W.excIn K C [.type "ValueError", .type "Exception", .type "BaseException", .type "object"] "ValueError.__new__" = true
  kp : PySem.W.keepIn K (.ref C) = true
  sb : PySem.W.subIn K (.ref C) (.type "BaseException") = some true
  ty : PySem.W.typeIn K (.ref C) = some (.type "type")
/-- isinstance(e, c), e the exception that the suite holds, of the class at D without a dict -/
def tIsE (K : PySem.W.Frag) (D a : Addr) (cls : Value) (d : Option Addr) (ta : TA) : TE := fun σ H Q => cls = .ref D ∧ d = none ∧ tCB (rIsE K D a) ta σ H Q
theorem pe_isE {X : Cx} {a D : Addr} {oe : Obj} {cls : Value} {d : Option Addr} {pn : List (Addr × Obj)} {e : Expr} {es : List Expr} {t : TA} {p pos : Pos} (C : ExcC X.K D) (hz : Zc cls d oe) (hf : ∃ vs, oe.data = .fields vs)
    (hg : Gl (X.suite a ((a, oe) :: pn)) "isinstance") (hm : X.mg "isinstance" = none) (ha : PA (X.suite a ((a, oe) :: pn)) (e :: es) t)
    (he : starEach (e :: es) X.env = (false, eval e X.env) :: starEach es X.env := by rfl) (hpl : (backTo pos (starEach es X.env)).any (·.1) = false := by rfl) :
    PE (X.suite a ((a, oe) :: pn)) (.Call (.Name "isinstance" p) (e :: es) [] pos) (tIsE X.K D a cls d t) := by
  refine ⟨fun pins s σ H Q I h => ?_⟩
  obtain ⟨ec, ed, h⟩ := h
  subst ec
  subst ed
  exact (pe_callB (X := X.suite a ((a, oe) :: pn)) (call_isE C hz hf) hg hm (by decide +kernel) ha (by decide) (by decide) he hpl).run pins s σ H Q I h
end Cs
namespace Cs
open PySem PySem.Spec PyProof.Rows L2
/-! ### calls that raise -/
def CalX (P : Program) (w : World) (K : PySem.W.Frag) (mg : Str → Option Value) (base : Heap) (k : Nat) (x : Str) (ps : List Str) (sp : Sp) : Prop :=
  ∃ (f : Addr) (fd : FuncData), FnOk P w K mg base (L2.CX P w) k f fd ps sp ∧ mg x = some (.ref f) ∧ PySem.W.keepIn K (.ref f) = true ∧ Binds K fd ps []
section
variable {P : Program} {w : World} {K : PySem.W.Frag} {mg : Str → Option Value} {base : Heap} {k j : Nat} {x : Str} {ps : List Str} {sp : Sp} {st : Stmt}
theorem CalX.of (F : FunG K mg x st ps) (h : ∀ {f : Addr} {fd : FuncData}, Fun K x x st f fd → FnOk P w K mg base (L2.CX P w) k f fd ps sp) : CalX P w K mg base k x ps sp := by
  obtain ⟨f, fd, F, g, b⟩ := F
  exact ⟨f, fd, h F, g, F.kp, b⟩
theorem CalX.mono (c : CalX P w K mg base j x ps sp) (h : j ≤ k) : CalX P w K mg base k x ps sp := by
  obtain ⟨f, fd, F, g⟩ := c
  exact ⟨f, fd, F.mono h, g⟩
end
section
variable {X : Cx} {k : Nat} {x : Str} {ps : List Str} {sp : Sp} {p pos : Pos} {e : Expr} {es : List Expr} {t : TA}
theorem pe_calX {E : XK} (c : CalX X.prog X.w X.K X.mg X.base k x ps sp) (hr : Room k X.A) (hg : Gl X x) (hx : Passes (L2.CX X.prog X.w) X E) (ha : PA X (e :: es) t) (hdb : (x == ("__debug__" : Str)) = false := by decide)
    (he : starEach (e :: es) X.env = (false, eval e X.env) :: starEach es X.env := by rfl) (hpl : (backTo pos (starEach es X.env)).any (·.1) = false := by rfl) :
    PE X (.Call (.Name x p) (e :: es) [] pos) (tCall sp [] E t) := by
  obtain ⟨f, fd, F, g, kp, b⟩ := c
  exact pe_call F hr hg g kp b .nil hx ha hdb he hpl
theorem pe_calS {E : L2.St → XK} (c : CalX X.prog X.w X.K X.mg X.base k x ps sp) (hr : Room k X.A) (hg : Gl X x) (hx : ∀ σ, PassesAt (L2.CX X.prog X.w) X σ (E σ)) (ha : PA X (e :: es) t) (hdb : (x == ("__debug__" : Str)) = false := by decide)
    (he : starEach (e :: es) X.env = (false, eval e X.env) :: starEach es X.env := by rfl) (hpl : (backTo pos (starEach es X.env)).any (·.1) = false := by rfl) :
    PE X (.Call (.Name x p) (e :: es) [] pos) (tCallS sp E t) := by
  obtain ⟨f, fd, F, g, kp, b⟩ := c
  exact pe_callS F hr hg g kp b hx ha hdb he hpl
end
def spFracX (C : Addr) : Sp := fun vs H Q E => ∃ p : Int, vs = [.int p, .int 0] ∧ E (.ref C) none H
def spOverX (C : Addr) : Sp := fun vs H Q E => ∃ (a b : Addr) (r : Rat), vs = [.ref a, .ref b] ∧ H a = some (nd r) ∧ Sz 1000 r ∧ H b = some (nd 0) ∧ ∀ H', Same H H' → E (.ref C) none H'
def spRefused : Sp := fun vs H Q _ => ∃ (a : Addr) (r : Rat), vs = [.ref a] ∧ H a = some (nd r) ∧ Sz 1000 r ∧ ∀ H', Same H H' → Q (.bl true) H'
theorem ei_refused {σ : L2.St} {H : Hp} {ta : TE} {r : Rat} {E : XK} (ha : EQ ta σ H r) (z : Sz 1000 r) : EI (tCall spRefused [] E (tCons ta tNil)) σ H (.bl true) := fun H1 e Q q =>
  ha H1 e _ fun p H2 e2 hp => ⟨p, r, rfl, hp, z, fun H3 e3 => q H3 (e2.trans e3)⟩
end Cs
namespace Cs
open PySem PySem.Spec PyProof.Rows L2
section
variable {X : Cx} {k : Nat} {x : Str} {ps : List Str} {sp : Sp} {p pos : Pos}
theorem pe_cal0 (c : Cal X.prog X.w X.K X.mg X.base k x ps sp) (hr : Room k X.A) (hg : Gl X x) (hdb : (x == ("__debug__" : Str)) = false := by decide) : PE X (.Call (.Name x p) [] [] pos) (tCall sp [] E0 tNil) := by
  obtain ⟨f, fd, F, g, kp, b⟩ := c
  exact pe_call0 F hr hg g kp b .nil pass0 hdb
end
end Cs
set_option maxHeartbeats 4000000
namespace Cs
open PySem PySem.Spec PyProof.Rows L2
/-! ### values that are no fractions -/
inductive NI (K : PySem.W.Frag) (H : Hp) : V → Prop
  | bl (b : Bool) : NI K H (.bl b)
  | str (s : Str) : NI K H (.str s)
  | tup {a : Addr} {xs : List V} (h : H a = some (.tup xs)) : NI K H (.ref a)
inductive BadV (K : PySem.W.Frag) (H : Hp) : V → Prop
  | int (i : Int) : BadV K H (.int i)
  | non : BadV K H .non
  | str (s : Str) : BadV K H (.str s)
  | lst {a : Addr} {xs : List V} (h : H a = some (.lst xs)) : BadV K H (.ref a)
  | dK {a : Addr} {kvs : List (Key × V)} (h : H a = some (.dK kvs)) : BadV K H (.ref a)
  | len {a : Addr} {xs : List V} (h : H a = some (.tup xs)) (n : xs.length ≠ 2) : BadV K H (.ref a)
  | fst {a : Addr} {x y : V} (h : H a = some (.tup [x, y])) (n : NI K H x) : BadV K H (.ref a)
  | snd {a : Addr} {i : Int} {y : V} (h : H a = some (.tup [.int i, y])) (n : NI K H y) : BadV K H (.ref a)
  | two {a : Addr} {i j : Int} (h : H a = some (.tup [.int i, .int j])) (n : ¬ (1 ≤ j ∧ Nat.gcd i.natAbs j.natAbs = 1)) : BadV K H (.ref a)
section
variable {K : PySem.W.Frag} {H H' : Hp}
theorem NI.same {x : V} (e : Same H H') (h : NI K H x) : NI K H' x := by
  cases h with
  | bl b => exact .bl b
  | str s => exact .str s
  | tup h => exact .tup (e _ _ h)
theorem BadV.same {x : V} (e : Same H H') (h : BadV K H x) : BadV K H' x := by
  cases h with
  | int i => exact .int i
  | non => exact .non
  | str s => exact .str s
  | lst h => exact .lst (e _ _ h)
  | dK h => exact .dK (e _ _ h)
  | len h n => exact .len (e _ _ h) n
  | fst h n => exact .fst (e _ _ h) (n.same e)
  | snd h n => exact .snd (e _ _ h) (n.same e)
  | two h n => exact .two (e _ _ h) n
end
theorem kit_st : kitB "str" "tuple" = some false := by decide +kernel
theorem kit_si : kitB "str" "int" = some false := by decide +kernel
theorem kit_nt : kitB "NoneType" "tuple" = some false := by decide +kernel
theorem kit_lt : kitB "list" "tuple" = some false := by decide +kernel
theorem kit_dt : kitB "dict" "tuple" = some false := by decide +kernel
theorem kit_ti : kitB "tuple" "int" = some false := by decide +kernel
/-- what _is_integer answers -/
def spIsI (K : PySem.W.Frag) : Sp := fun vs H Q _ => (∃ i : Int, vs = [.int i] ∧ Q (.bl true) H) ∨ (∃ x : V, vs = [x] ∧ NI K H x ∧ Q (.bl false) H)
def spIsF (K : PySem.W.Frag) : Sp := fun vs H Q _ => (∃ v : V, vs = [v] ∧ BadV K H v ∧ Q (.bl false) H) ∨ (∃ (a : Addr) (i j : Int), vs = [.ref a] ∧ H a = some (.tup [.int i, .int j]) ∧ 1 ≤ j ∧ Nat.gcd i.natAbs j.natAbs = 1 ∧ Q (.bl true) H)
def spInteger (K : PySem.W.Frag) : Sp := fun vs H Q _ => ∃ d : Addr, vs = [.ref d] ∧ Deck K H d ∧ ∀ (n : Int) (H' : Hp), But d H H' → Deck K H' d → n.natAbs < 10 ^ 60 → Q (.int n) H'
def spRefusedI : Sp := fun vs H Q _ => ∃ p : Int, vs = [.int p] ∧ ∀ H', Same H H' → Q (.bl true) H'
/-! ### building such values -/
def EB (K : PySem.W.Frag) (te : TE) (σ : L2.St) (H : Hp) : Prop := ∀ H1, Same H H1 → ∀ Q : VK, (∀ v H2, Same H1 H2 → BadV K H2 v → Q v H2) → te σ H1 Q
def EBA (K : PySem.W.Frag) (ta : TA) (σ : L2.St) (H : Hp) (n : Nat) : Prop := ∀ H1, Same H H1 → ∀ Q : List V → Hp → Prop, (∀ vs H2, Same H1 H2 → (∀ v ∈ vs, BadV K H2 v) → vs.length = n → Q vs H2) → ta σ H1 Q
section
variable {K : PySem.W.Frag} {σ : L2.St} {H : Hp} {ta tb tc : TE} {tr : TA} {i j : Int} {x y : V} {n : Nat}
theorem eba_nil : EBA K tNil σ H 0 := fun H1 _ _ q => q [] H1 (Same.refl H1) (fun _ h => nomatch h) rfl
theorem eba_cons (h : EB K ta σ H) (g : EBA K tr σ H n) : EBA K (tCons ta tr) σ H (n + 1) := fun H1 e Q q =>
  h H1 e _ fun v H2 e2 hv => g H2 (e.trans e2) _ fun vs H3 e3 hvs hn => q (v :: vs) H3 (e2.trans e3) (fun w hw => by
    rcases List.mem_cons.mp hw with z | z
    · rw [z]
      exact hv.same e3
    · exact hvs w z) (by rw [List.length_cons, hn])
theorem eb_int (h : EI ta σ H (.int i)) : EB K ta σ H := fun H1 e Q q => h H1 e _ fun H2 e2 => q _ H2 e2 (.int i)
theorem eb_str {s : Str} (h : EI ta σ H (.str s)) : EB K ta σ H := fun H1 e Q q => h H1 e _ fun H2 e2 => q _ H2 e2 (.str s)
theorem eb_non : EB K (tC .non) σ H := fun H1 _ _ q => q _ H1 (Same.refl H1) .non
theorem eb_tup2 (h : EI ta σ H (.int i)) (g : EI tb σ H (.int j)) (n : ¬ (1 ≤ j ∧ Nat.gcd i.natAbs j.natAbs = 1)) : EB K (tTup (tCons ta (tCons tb tNil))) σ H := fun H1 e Q q =>
  h H1 e _ fun H2 e2 => g H2 (e.trans e2) _ fun H3 e3 => ⟨by show 2 ≤ sizeLine; decide, fun t ht => q _ _ ((e2.trans e3).trans (Same.new ht)) (.two upd_same n)⟩
theorem eb_lst2 (h : EI ta σ H x) (g : EI tb σ H y) : EB K (tLst (tCons ta (tCons tb tNil))) σ H := fun H1 e Q q =>
  h H1 e _ fun H2 e2 => g H2 (e.trans e2) _ fun H3 e3 => ⟨by show 2 ≤ sizeLine; decide, fun t ht => q _ _ ((e2.trans e3).trans (Same.new ht)) (.lst upd_same)⟩
theorem eb_tup1 (h : EI ta σ H x) : EB K (tTup (tCons ta tNil)) σ H := fun H1 e Q q =>
  h H1 e _ fun H2 e2 => ⟨by show 1 ≤ sizeLine; decide, fun t ht => q _ _ (e2.trans (Same.new ht)) (.len upd_same (by show 1 ≠ 2; decide))⟩
theorem eb_tup0 : EB K (tTup tNil) σ H := fun H1 e Q q => ⟨by show 0 ≤ sizeLine; decide, fun t ht => q _ _ (Same.new ht) (.len upd_same (by decide))⟩
theorem eb_tup3 {z : V} (h : EI ta σ H x) (g : EI tb σ H y) (k : EI tc σ H z) : EB K (tTup (tCons ta (tCons tb (tCons tc tNil)))) σ H := fun H1 e Q q =>
  h H1 e _ fun H2 e2 => g H2 (e.trans e2) _ fun H3 e3 => k H3 ((e.trans e2).trans e3) _ fun H4 e4 => ⟨by show 3 ≤ sizeLine; decide, fun t ht => q _ _ (((e2.trans e3).trans e4).trans (Same.new ht)) (.len upd_same (by show 3 ≠ 2; decide))⟩
theorem eb_fst (h : EI ta σ H x) (g : EI tb σ H y) (n : ∀ H', NI K H' x) : EB K (tTup (tCons ta (tCons tb tNil))) σ H := fun H1 e Q q =>
  h H1 e _ fun H2 e2 => g H2 (e.trans e2) _ fun H3 e3 => ⟨by show 2 ≤ sizeLine; decide, fun t ht => q _ _ ((e2.trans e3).trans (Same.new ht)) (.fst upd_same (n _))⟩
theorem eb_snd (h : EI ta σ H (.int i)) (g : EI tb σ H y) (n : ∀ H', NI K H' y) : EB K (tTup (tCons ta (tCons tb tNil))) σ H := fun H1 e Q q =>
  h H1 e _ fun H2 e2 => g H2 (e.trans e2) _ fun H3 e3 => ⟨by show 2 ≤ sizeLine; decide, fun t ht => q _ _ ((e2.trans e3).trans (Same.new ht)) (.snd upd_same (n _))⟩
/-- a pair whose first item is a pair -/
theorem eb_nest (h : EI ta σ H x) (g : EI tb σ H y) {z : V} (k : EI tc σ H z) : EB K (tTup (tCons (tTup (tCons ta (tCons tb tNil))) (tCons tc tNil))) σ H := fun H1 e Q q =>
  h H1 e _ fun H2 e2 => g H2 (e.trans e2) _ fun H3 e3 => ⟨by show 2 ≤ sizeLine; decide, fun u hu => k _ (((e.trans e2).trans e3).trans (Same.new hu)) _ fun H4 e4 =>
    ⟨by show 2 ≤ sizeLine; decide, fun t ht => q _ _ ((((e2.trans e3).trans (Same.new hu)).trans e4).trans (Same.new ht)) (.fst upd_same (.tup (Same.new ht _ _ (e4 _ _ upd_same))))⟩⟩
theorem ei_strI (h : EI ta σ H (.int i)) (hi : i.natAbs < 2 ^ 1920) : EI (tCB (fun xs H Q => ∃ i : Int, xs = [.int i] ∧ i.natAbs.log2 < 1920 ∧ Q (.str (toString i)) H) (tCons ta tNil)) σ H (.str (toString i)) := fun H1 e Q q =>
  h H1 e _ fun H2 e2 => ⟨i, rfl, PySem.Flt.log2_lt_of (by decide) hi, q H2 e2⟩
theorem eq_frac {p q : Int} {E : XK} (ha : EI ta σ H (.int p)) (hb : EI tb σ H (.int q)) (q0 : q ≠ 0) (hq : q.natAbs < 2 ^ 9000) : EQ (tCall spFrac [] E (tCons ta (tCons tb tNil))) σ H (Rat.divInt p q) := fun H1 e Q k =>
  ha H1 e _ fun H2 e2 => hb H2 (e.trans e2) _ fun H3 e3 => ⟨p, q, rfl, q0, hq, fun t H4 e4 _ h4 => k t H4 ((e2.trans e3).trans e4) h4⟩
theorem eq_frac1 {p : Int} {E : XK} (ha : EI ta σ H (.int p)) : EQ (tCall spFrac [.int 1] E (tCons ta tNil)) σ H (Rat.divInt p 1) := fun H1 e Q k =>
  ha H1 e _ fun H2 e2 => ⟨p, 1, rfl, by decide, by decide, fun t H4 e4 _ h4 => k t H4 (e2.trans e4) h4⟩
/-- not _law_same(is_fraction(x), True), x a fraction -/
theorem et_isf {E E' : XK} {r : Rat} (h : EQ ta σ H r) : ET (tNot (tB (tCall spSame [] E (tCons (tCall (spIsF K) [] E' (tCons ta tNil)) (tCons (tC (.bl true)) tNil))))) σ H false := fun H1 e Q k =>
  h H1 e _ fun p H2 e2 hp => .inr ⟨p, r.num, (r.den : Int), rfl, hp, by have := r.den_nz; omega, by rw [Int.natAbs_natCast]; exact r.reduced, .inl (.inr ⟨true, true, rfl, true, rfl, k H2 e2⟩)⟩
theorem et_isb {E E' : XK} {i : Nat} {v : V} (hv : σ[i]? = some (some v)) (h : BadV K H v) : ET (tNot (tB (tCall spSame [] E (tCons (tCall (spIsF K) [] E' (tCons (tVar i) tNil)) (tCons (tC (.bl false)) tNil))))) σ H false := fun H1 e Q k =>
  ⟨v, hv, .inl ⟨v, rfl, h.same e, .inl (.inr ⟨false, false, rfl, true, rfl, k H1 (Same.refl H1)⟩)⟩⟩
theorem et_refI {E : XK} {p : Int} (h : EI ta σ H (.int p)) : ET (tNot (tB (tCall spRefusedI [] E (tCons ta tNil)))) σ H false := fun H1 e Q k =>
  h H1 e _ fun H2 e2 => ⟨p, rfl, fun H3 e3 => ⟨true, rfl, k H3 (e2.trans e3)⟩⟩
end
section
variable {X : Cx} {k : Nat} {x : Str} {ps : List Str} {sp : Sp} {p pos : Pos} {e : Expr} {es : List Expr} {t : TA}
/-- a def that may be called with its last argument left out -/
def CalD (P : Program) (w : World) (K : PySem.W.Frag) (mg : Str → Option Value) (base : Heap) (k : Nat) (x : Str) (ps : List Str) (dvs : List V) (sp : Sp) : Prop :=
  ∃ (f : Addr) (fd : FuncData) (ds : List Value), FnOk P w K mg base CX0 k f fd ps sp ∧ mg x = some (.ref f) ∧ PySem.W.keepIn K (.ref f) = true ∧ Binds K fd ps ds ∧ Vals dvs ds
theorem CalD.mono {P : Program} {w : World} {K : PySem.W.Frag} {mg : Str → Option Value} {base : Heap} {j k : Nat} {dvs : List V} (c : CalD P w K mg base j x ps dvs sp) (h : j ≤ k) : CalD P w K mg base k x ps dvs sp := by
  obtain ⟨f, fd, ds, F, g⟩ := c
  exact ⟨f, fd, ds, F.mono h, g⟩
theorem pe_calD {dvs : List V} (c : CalD X.prog X.w X.K X.mg X.base k x ps dvs sp) (hr : Room k X.A) (hg : Gl X x) (ha : PA X (e :: es) t) (hdb : (x == ("__debug__" : Str)) = false := by decide)
    (he : starEach (e :: es) X.env = (false, eval e X.env) :: starEach es X.env := by rfl) (hpl : (backTo pos (starEach es X.env)).any (·.1) = false := by rfl) :
    PE X (.Call (.Name x p) (e :: es) [] pos) (tCall sp dvs E0 t) := by
  obtain ⟨f, fd, ds, F, g, kp, b, hd⟩ := c
  exact pe_call F hr hg g kp b hd pass0 ha hdb he hpl
end
theorem divInt_one (p : Int) : Rat.divInt p 1 = (p : Rat) := by
  have h := divInt_pos p 1 (by decide)
  have e : Nat.gcd p.natAbs (1 : Int).natAbs = 1 := Nat.gcd_one_right _
  rw [e] at h
  refine Rat.ext ?_ ?_
  · rw [h.1, Rat.num_intCast]
    exact Int.ediv_one p
  · have h2 := h.2
    rw [Rat.den_intCast]
    have : ((Rat.divInt p 1).den : Int) = 1 := h2
    omega
theorem st_bad {K : PySem.W.Frag} {ta : TA} {n : Nat} {g : TG} {D : Ends} {σ : L2.St} {H : Hp} (h : EBA K ta σ H n) (hn : n ≤ 1000) (k : ∀ L H' vs, Same H H' → H' L = some (.lst vs) → (∀ v ∈ vs, BadV K H' v) → g (.ref L) σ H' D.nx) : tAsg (tLst ta) g D σ H :=
  h H (Same.refl H) _ fun vs H8 e8 hb hl => ⟨Nat.le_of_lt (small1000 (by omega)), fun L hL => k L _ vs (e8.trans (Same.new hL)) upd_same fun v hv => (hb v hv).same (Same.new hL)⟩
theorem kit_refVE {K : PySem.W.Frag} {C : Addr} (h : PySem.W.mroIn K C (.type "ValueError") = some true) : PySem.W.kitOne K (.ref C) (.type "ValueError") = some true := by
  show (if (Value.ref C == Value.type "ValueError") = true then some true else PySem.W.kitCls K (.ref C) (.type "ValueError")) = some true
  rw [if_neg (by rw [show (Value.ref C == Value.type "ValueError") = false from rfl]; exact Bool.false_ne_true)]
  show (if PySem.W.kitMeta "ValueError" = true then PySem.W.subIn K (.ref C) (.type "ValueError") else none) = some true
  rw [if_pos (by decide +kernel)]
  exact h
end Cs
set_option maxHeartbeats 4000000
namespace Cs
open PySem PySem.Spec PyProof.Rows L2
/-! ### sum of a tuple of ints; a later tuple of ints -/
def rSumT (K : PySem.W.Frag) : List V → Hp → VK → Prop := fun vs H Q => ∃ (a : Addr) (ns : List Int), vs = [V.ref a] ∧ SqT K H a (ns.map V.int) ∧ Q (.int ns.sum) H
theorem cr_sumT {X : Cx} (hc : X.calm = true) : CallR X (.builtin "sum") (rSumT X.K) := by
  intro pins s σ H vs us Q I r h
  obtain ⟨a, ns, rfl, hs, q⟩ := h
  obtain ⟨its, rv, hl, _⟩ := I.tuple hs
  rw [Vals.ref1 r]
  have hi : IntsAre its ns := Vals.ints rv
  have hl2 : s.heap.IsTuple a its.toArray := hl
  obtain ⟨xs, hx⟩ := hi.allInts.items
  have hn : numsOf its.toArray.toList = ns := by rw [show its.toArray.toList = its from rfl, hi.numsOf]
  rw [hx] at hl2 hn
  rw [nums_intItems] at hn
  refine PySem.W.ktm_sumG (I.ok.hd hc) hl2 fun h' tk t' hk => ?_
  rw [preSum_eq, List.take_of_length_le (by simp), hn]
  exact ⟨.int _, H, I.kept hk, ⟨_, rfl⟩, q⟩
def rGtT (K : PySem.W.Frag) : R2 := fun x y H Q => ∃ (a b : Addr) (ns ms : List Int), x = .ref a ∧ y = .ref b ∧ SqT K H a (ns.map V.int) ∧ SqT K H b (ms.map V.int) ∧
  Q (.bl (Ob.lexAt (fun j => decide (ns.getD j 0 = ms.getD j 0)) (fun j => decide (ms.getD j 0 < ns.getD j 0)) (decide (ns.length > ms.length)) 0 (min ns.length ms.length))) H
theorem op_gtT {X : Cx} (hu : X.A.units < cLine) : OpR X (compareOp .Gt) (rGtT X.K) := by
  intro pins s σ H x y v u Q I rx ry h
  obtain ⟨a, b, ns, ms, rfl, rfl, ha, hb, q⟩ := h
  cases rx
  cases ry
  obtain ⟨its, r1, p1, _⟩ := I.tuple ha
  obtain ⟨its2, r2, p2, _⟩ := I.tuple hb
  have i1 : IntsAre its ns := Vals.ints r1
  have i2 : IntsAre its2 ms := Vals.ints r2
  have e1 : its.toArray.size = ns.length := by rw [List.size_toArray]; exact i1.length
  have e2 : its2.toArray.size = ms.length := by rw [List.size_toArray]; exact i2.length
  have at1 : ∀ j (h1 : j < its.toArray.size), ∃ t, its.toArray[j] = .int (ns.getD j 0) t := fun j h1 => PyProof.Rows.IntsAre.int_at i1 _ _ (by simp at h1; simp [h1])
  have at2 : ∀ j (h1 : j < its2.toArray.size), ∃ t, its2.toArray[j] = .int (ms.getD j 0) t := fun j h1 => PyProof.Rows.IntsAre.int_at i2 _ _ (by simp at h1; simp [h1])
  have R := Ob.RcOp.tuples_gt (A := X.A) (s := s) (e := fun j => decide (ns.getD j 0 = ms.getD j 0)) (r := fun j => decide (ms.getD j 0 < ns.getD j 0)) p1 p2 hu (fun j h1 h2 => by
    obtain ⟨t, et⟩ := at1 j h1
    obtain ⟨t', et'⟩ := at2 j h2
    rw [et, et']
    have z : (ns.getD j 0 == ms.getD j 0) = decide (ns.getD j 0 = ms.getD j 0) := by
      by_cases q : ns.getD j 0 = ms.getD j 0
      · rw [decide_eq_true q]; exact beq_iff_eq.mpr q
      · rw [decide_eq_false q]; exact beq_eq_false_iff_ne.mpr q
    rw [← z]
    exact SeqAt.EqAt.int_int _ _ _ _) (fun j h1 h2 _ => by
    obtain ⟨t, et⟩ := at1 j h1
    obtain ⟨t', et'⟩ := at2 j h2
    rw [et, et']
    exact Ob.RcOp.gt_int _ _ _ _)
  have z : decide (its.toArray.size > its2.toArray.size) = decide (ns.length > ms.length) := by rw [e1, e2]
  have z2 : min its.toArray.size its2.toArray.size = min ns.length ms.length := by rw [e1, e2]
  rw [z, z2] at R
  exact R _ _ _ _ ⟨.bl _, H, I, rfl, q⟩
/-! ### the calendar -/
def lens : List Int := [31, 28, 31, 30, 31, 30, 31, 31, 30, 31, 30, 31]
def mlen (i : Nat) : Int := lens.getD i 0
def cum (i : Nat) : Int := (lens.take i).sum
theorem cum_mono : ∀ i, i < 13 → ∀ j, j < 13 → i ≤ j → cum i ≤ cum j := by decide
theorem cum_succ : ∀ i, i < 12 → cum (i + 1) = cum i + mlen i := by decide
theorem mlen_pos : ∀ i, i < 12 → 28 ≤ mlen i ∧ mlen i ≤ 31 := by decide
theorem cum_zero : cum 0 = 0 := by decide
theorem cum_all : cum 12 = 365 := by decide
theorem cum_bd : ∀ i, i < 13 → 0 ≤ cum i ∧ cum i ≤ 365 := by decide
theorem lens_at : ∀ i, i < 12 → (lens.map V.int)[i]? = some (.int (mlen i)) := by decide
structure DateR (day y : Int) (i : Nat) (n : Int) : Prop where
  hi : i < 12
  n1 : 1 ≤ n
  n2 : n ≤ mlen i
  e : day = 365 * y + cum i + n - 1
theorem DateR.rest {day y n : Int} {i : Nat} (h : DateR day y i n) : 0 ≤ cum i + n - 1 ∧ cum i + n - 1 < 365 := by
  have h1 := cum_succ i h.hi
  have h2 := cum_mono (i + 1) (by have := h.hi; omega) 12 (by decide) (by have := h.hi; omega)
  have h3 := (cum_bd i (by have := h.hi; omega)).1
  have h4 := h.n1
  have h5 := h.n2
  rw [cum_all] at h2
  omega
theorem DateR.unique {day y y' n n' : Int} {i i' : Nat} (h : DateR day y i n) (g : DateR day y' i' n') : y = y' ∧ i = i' ∧ n = n' := by
  have h1 := h.rest
  have g1 := g.rest
  have h2 := h.e
  have g2 := g.e
  have ey : y = y' := by omega
  subst ey
  have er : cum i + n = cum i' + n' := by omega
  have hi := h.hi
  have gi := g.hi
  have hs := cum_succ i hi
  have gs := cum_succ i' gi
  have hn1 := h.n1
  have hn2 := h.n2
  have gn1 := g.n1
  have gn2 := g.n2
  rcases Nat.lt_trichotomy i i' with z | z | z
  · have := cum_mono (i + 1) (by omega) i' (by omega) z
    omega
  · subst z
    exact ⟨rfl, rfl, by omega⟩
  · have := cum_mono (i' + 1) (by omega) i (by omega) z
    omega
theorem DateR.y0 {day y n : Int} {i : Nat} (h : DateR day y i n) (d : 0 ≤ day) : 0 ≤ y := by
  have h1 := h.rest
  have h2 := h.e
  omega
/-- a later day has a greater date -/
theorem DateR.later {day day' y y' n n' : Int} {i i' : Nat} (h : DateR day y i n) (g : DateR day' y' i' n') (l : day < day') : y < y' ∨ (y = y' ∧ (i < i' ∨ (i = i' ∧ n < n'))) := by
  have h1 := h.rest
  have g1 := g.rest
  have h2 := h.e
  have g2 := g.e
  by_cases c : y < y'
  · exact .inl c
  · have ey : y = y' := by omega
    subst ey
    refine .inr ⟨rfl, ?_⟩
    have hi := h.hi
    have gi := g.hi
    have hn1 := h.n1
    have gn2 := g.n2
    have gs := cum_succ i' gi
    rcases Nat.lt_trichotomy i i' with z | z | z
    · exact .inl z
    · subst z
      exact .inr ⟨rfl, by omega⟩
    · have := cum_mono (i' + 1) (by omega) i (by omega) z
      omega
def dtl (y : Int) (i : Nat) (n : Int) : List V := [.int y, .int ((i : Int) + 1), .int n]
def dt (y : Int) (i : Nat) (n : Int) : HO := .tup (dtl y i n)
/-! ### the state of draws: the script's list, the next cell, what is left of a cell, the state, how many draws are left -/
def StO (l : Addr) (b c e g : Int) : HO := .lst [.ref l, .int b, .int c, .int e, .int g]
def St5 (K : PySem.W.Frag) (H : Hp) (d : Addr) : Prop := ∃ (l : Addr) (ns : List Int) (b c e g : Int), H d = some (StO l b c e g) ∧ SqL K H l (ns.map V.int) ∧ l ≠ d ∧ 0 ≤ b
theorem St5.same {K : PySem.W.Frag} {H H' : Hp} {d : Addr} (s : Same H H') (h : St5 K H d) : St5 K H' d := by
  obtain ⟨l, ns, b, c, e, g, h1, h2, h3, h4⟩ := h
  exact ⟨l, ns, b, c, e, g, s _ _ h1, s.seq h2, h3, h4⟩
theorem St5.lst {K : PySem.W.Frag} {H : Hp} {d : Addr} (h : St5 K H d) : ∃ ys, H d = some (.lst ys) := by
  obtain ⟨l, ns, b, c, e, g, h1, h2, h3, h4⟩ := h
  exact ⟨_, h1⟩
theorem st5_of {K : PySem.W.Frag} {H H1 : Hp} {d l : Addr} {ns : List Int} {b c e g : Int} (hl : SqL K H l (ns.map V.int)) (ne : l ≠ d) (hb : But d H H1) (h : H1 d = some (StO l b c e g)) (b0 : 0 ≤ b) : St5 K H1 d :=
  ⟨l, ns, b, c, e, g, h, hb.seq ne hl, ne, b0⟩
theorem But.tup5 {K : PySem.W.Frag} {d a : Addr} {xs : List V} {H H' : Hp} (b : But d H H') (hd : St5 K H d) (h : H a = some (.tup xs)) : H' a = some (.tup xs) := by
  obtain ⟨ys, e⟩ := hd.lst
  exact b.tup e h
def spState (K : PySem.W.Frag) : Sp := fun vs H Q _ => ∃ (a : Addr) (ns : List Int), vs = [.ref a] ∧ SqL K H a (ns.map V.int) ∧ ∀ d H', Same H H' → H d = none → St5 K H' d → Q (.ref d) H'
def spDrawS (K : PySem.W.Frag) : Sp := fun vs H Q _ => ∃ (d : Addr) (m : Int), vs = [.ref d, .int m] ∧ 0 < m ∧ m.natAbs < 2 ^ 8000 ∧ St5 K H d ∧ ∀ v H', 0 ≤ v → v < m → But d H H' → St5 K H' d → Q (.int v) H'
/-! ### promises -/
def spCheck : Sp := fun vs H Q _ => ∃ day : Int, vs = [.int day] ∧ 0 ≤ day ∧ Q .non H
def spMLen : Sp := fun vs H Q _ => ∃ i : Nat, i < 12 ∧ vs = [.int ((i : Int) + 1)] ∧ Q (.int (mlen i)) H
def spDateOf : Sp := fun vs H Q _ => ∃ day : Int, vs = [.int day] ∧ 0 ≤ day ∧ ∀ t H' y i n, Same H H' → H' t = some (dt y i n) → DateR day y i n → Q (.ref t) H'
def spDayOf : Sp := fun vs H Q _ => ∃ (y n : Int) (i : Nat), vs = [.int y, .int ((i : Int) + 1), .int n] ∧ i < 12 ∧ 0 ≤ y ∧ 1 ≤ n ∧ n ≤ mlen i ∧ ∀ H', Same H H' → Q (.int (365 * y + cum i + n - 1)) H'
def spLDay : Sp := fun vs H Q _ => ∃ (t : Addr) (y n : Int) (i : Nat), vs = [.ref t] ∧ i < 12 ∧ H t = some (dt y i n) ∧ ∀ H', Same H H' → Q (.int (365 * y + cum i + n - 1)) H'
def spWeekday : Sp := fun vs H Q _ => ∃ day : Int, vs = [.int day] ∧ 0 ≤ day ∧ Q (.int (day % 7)) H
def spBusiness : Sp := fun vs H Q _ => ∃ day : Int, vs = [.int day] ∧ 0 ≤ day ∧ Q (.bl (decide (day % 7 ≤ 4))) H
def spLBusiness : Sp := fun vs H Q _ => ∃ day : Int, vs = [.int day] ∧ Q (.bl (decide (day % 7 ≤ 4))) H
def spLens : Sp := fun vs H Q _ => vs = [] ∧ ∀ l H', Same H H' → H l = none → H' l = some (.lst (lens.map V.int)) → Q (.ref l) H'
/-- it raises an error of the class at C -/
def spR (A : List V → Prop) (n : Nat) (C : Addr) : Sp := fun vs H _ E => vs.length = n ∧ A vs ∧ ∀ (dd : Option Addr) H', Same H H' → E (.ref C) dd H'
end Cs
namespace Cs
open PySem PySem.Spec PyProof.Rows L2
/-- the i-th slot holds the def at f; what it raises is wished for at the slots -/
def tCallLS (i : Nat) (f : Addr) (sp : Sp) (E : L2.St → XK) (t : TA) : TE := fun σ H Q => σ[i]? = some (some (.ref f)) ∧ t σ H fun vs H1 => sp vs H1 Q (E σ)
section
variable {X : Cx} {CX : CXT} {k i : Nat} {f : Addr} {fd : FuncData} {ps : List Str} {sp : Sp} {E : L2.St → XK} {x : Str} {p pos : Pos} {e : Expr} {es : List Expr} {t : TA}
theorem pe_callLS (F : FnOk X.prog X.w X.K X.mg X.base CX k f fd ps sp) (hr : Room k X.A) (hN : X.N[i]? = some x) (hv : Vis X.env.scope x) (hk : PySem.W.keepIn X.K (.ref f) = true) (hb : Binds X.K fd ps []) (hx : ∀ σ, PassesAt CX X σ (E σ)) (ha : PA X (e :: es) t)
    (hdb : (x == ("__debug__" : Str)) = false := by decide) (hcd : (x == ("__classdict__" : Str)) = false := by decide)
    (he : starEach (e :: es) X.env = (false, eval e X.env) :: starEach es X.env := by rfl) (hpl : (backTo pos (starEach es X.env)).any (·.1) = false := by rfl) : PE X (.Call (.Name x p) (e :: es) [] pos) (tCallLS i f sp E t) := by
  refine ⟨fun pins s σ H Q I h => ?_⟩
  obtain ⟨hs, ht⟩ := h
  refine wpAny_Call_Name_kw (thn ((pe_var (pos := p) hN hv hdb hcd).run pins s σ H (fun v H1 => v = .ref f ∧ H1 = H) I ⟨.ref f, hs, rfl, rfl⟩) fun u s1 ⟨v, H1, I1, r1, q1⟩ => ?_)
  obtain ⟨rfl, rfl⟩ := q1
  cases r1
  refine PySem.W.callWith_K (h₀ := X.base) I.ok.mod.kin hk (thn (ha.run pos pins s1 σ _ _ I1 ht) fun us s2 ⟨vs, H2, I2, r, q⟩ => ⟨I2.kIn, ?_⟩) he hpl
  exact run_fnS F hr hb (hx σ) I2 r q
end
/-- the def at f raises an error of the class at C when it is called so -/
def RaisesAt (P : Program) (w : World) (K : PySem.W.Frag) (mg : Str → Option Value) (base : Heap) (k : Nat) (f : Addr) (args : List V) (C : Addr) : Prop :=
  ∃ (fd : FuncData) (ps : List Str) (A : List V → Prop) (n : Nat), FnOk P w K mg base (L2.CX P w) k f fd ps (spR A n C) ∧ PySem.W.keepIn K (.ref f) = true ∧ Binds K fd ps [] ∧ A args ∧ args.length = n
theorem RaisesAt.of {P : Program} {w : World} {K : PySem.W.Frag} {mg : Str → Option Value} {base : Heap} {j k : Nat} {x : Str} {ps : List Str} {A : List V → Prop} {n : Nat} {C f : Addr} {args : List V} (c : CalX P w K mg base j x ps (spR A n C)) (hj : j ≤ k) (g : mg x = some (.ref f)) (ha : A args) (hn : args.length = n) : RaisesAt P w K mg base k f args C := by
  obtain ⟨f', fd, F, g', kp, b⟩ := c
  rw [g] at g'
  cases g'
  exact ⟨fd, ps, A, n, F.mono hj, kp, b, ha, hn⟩
def spRefuses (P : Program) (w : World) (K : PySem.W.Frag) (mg : Str → Option Value) (base : Heap) (k : Nat) (CD CW : Addr) : Sp := fun vs H Q _ => ∃ (f L : Addr) (args : List V) (C : Addr) (wd : Str), vs = [.ref f, .ref L, .str wd] ∧ H L = some (.lst args) ∧ (1 ≤ args.length ∧ args.length ≤ 4) ∧ RaisesAt P w K mg base k f args C ∧ ((C = CD ∧ wd = "day") ∨ (C = CW ∧ wd = "word")) ∧ ∀ H', Same H H' → Q (.bl true) H'
/-- what the three clauses of the law's own refusal need -/
structure Clauses (K : PySem.W.Frag) (mg : Str → Option Value) (CD CW CE : Addr) : Prop where
  gD : mg "InvalidDay" = some (.ref CD)
  gW : mg "InvalidWord" = some (.ref CW)
  gE : mg "ConsolError" = some (.ref CE)
  dd : PySem.W.exmOne K (.ref CD) (.ref CD) = some true
  wd : PySem.W.exmOne K (.ref CW) (.ref CD) = some false
  ww : PySem.W.exmOne K (.ref CW) (.ref CW) = some true
def tsW (z : Str) : Addr → Value → Option Addr → TS := fun _ _ _ => tRet (tOp rEq (tVar 2) (tC (.str z)))
def tsF : Addr → Value → Option Addr → TS := fun _ _ _ => tRet (tC (.bl false))
theorem wMany_ok {K : PySem.W.Frag} {mg : Str → Option Value} {CD CW CE C : Addr} {wd : Str} {D : Ends} {σ : L2.St} {H : Hp} {dd : Option Addr} (T : Clauses K mg CD CW CE) (hw : (C = CD ∧ wd = "day") ∨ (C = CW ∧ wd = "word")) (hσ : σ[2]? = some (some (.str wd))) (out : D.rt (.bl true) H) :
    wMany K (fun _ _ _ _ => False) D [(.ref CD, tsW "day"), (.ref CW, tsW "word"), (.ref CE, tsF)] (.ref C) dd σ H := by
  rcases hw with ⟨rfl, rfl⟩ | ⟨rfl, rfl⟩
  · refine ⟨true, T.dd, fun _ a _ => ⟨_, hσ, rfl, ?_⟩, fun z => nomatch z⟩
    rw [decide_eq_true (show V.str "day" = V.str "day" from rfl)]
    exact out
  · refine ⟨false, T.wd, (fun z => nomatch z), fun _ => ⟨true, T.ww, fun _ a _ => ⟨_, hσ, rfl, ?_⟩, fun z => nomatch z⟩⟩
    rw [decide_eq_true (show V.str "word" = V.str "word" from rfl)]
    exact out
end Cs
namespace Cs
open PySem PySem.Spec PyProof.Rows L2
def rLenK (K : PySem.W.Frag) : List V → Hp → VK → Prop := fun xs H Q => ∃ p ys, xs = [.ref p] ∧ (SqL K H p ys ∨ SqT K H p ys) ∧ Q (.int ys.length) H
theorem call_lenK {X : Cx} {K : PySem.W.Frag} (h : X.K = K) : CallR X (.builtin "len") (rLenK K) := h ▸ call_len_seq
theorem ix_lisK {X : Cx} {K : PySem.W.Frag} (h : X.K = K) : IxR X (rIxL K) := h ▸ ix_list
end Cs
set_option maxHeartbeats 4000000
namespace Cs
open PySem PySem.Spec PyProof.Rows L2
/-! ### values and tests over dates -/
def EDt (te : TE) (σ : L2.St) (H : Hp) (day : Int) : Prop := ∀ H1, Same H H1 → ∀ Q : VK, (∀ t H2 y i n, Same H1 H2 → H2 t = some (dt y i n) → DateR day y i n → Q (.ref t) H2) → te σ H1 Q
section
variable {K : PySem.W.Frag} {σ : L2.St} {H : Hp} {ta tb tc : TE} {E : XK} {day : Int} {x y z : Int}
theorem edt_var {j : Nat} {p : Addr} {yy n : Int} {i : Nat} (h : σ[j]? = some (some (.ref p))) (hp : H p = some (dt yy i n)) (hd : DateR day yy i n) : EDt (tVar j) σ H day := fun H1 e Q q => ⟨.ref p, h, q p H1 _ _ _ (Same.refl H1) (e _ _ hp) hd⟩
theorem edt_call (ha : EI ta σ H (.int day)) (d0 : 0 ≤ day) : EDt (tCall spDateOf [] E (tCons ta tNil)) σ H day := fun H1 e Q q =>
  ha H1 e _ fun H2 e2 => ⟨day, rfl, d0, fun t H3 y i n e3 ht hd => q t H3 y i n (e2.trans e3) ht hd⟩
theorem dt_same {day y y' n n' : Int} {i i' : Nat} (h : DateR day y i n) (g : DateR day y' i' n') : dt y i n = dt y' i' n' := by
  obtain ⟨rfl, rfl, rfl⟩ := h.unique g
  rfl
theorem et_neDt (ha : EDt ta σ H day) (hb : EDt tb σ H day) : ET (tTest (tOp (rNeD K) ta tb)) σ H false := fun H1 e Q k =>
  ha H1 e _ fun p H2 y i n e2 hp hd => hb H2 (e.trans e2) _ fun p' H3 y' i' n' e3 hp' hd' => by
    rw [← dt_same hd hd'] at hp'
    refine ⟨.tuple [.int y, .int ((i : Int) + 1), .int n], .tuple [.int y, .int ((i : Int) + 1), .int n], .tup (SqT.of (e3 _ _ hp)) (.cons (.int _) (.cons (.int _) (.cons (.int _) .nil))), .tup (SqT.of hp') (.cons (.int _) (.cons (.int _) (.cons (.int _) .nil))), by rfl, by rfl, false, ?_, k H3 (e2.trans e3)⟩
    rw [show PyData.eqv (.tuple [.int y, .int ((i : Int) + 1), .int n]) (.tuple [.int y, .int ((i : Int) + 1), .int n]) = true from by simp [PyData.eqv, PyData.eqvAll]]
    rfl
theorem et_isT {j : Nat} {p : Addr} {xs : List V} (h : σ[j]? = some (some (.ref p))) (hp : H p = some (.tup xs)) : ET (tNot (tB (tCB (rIsi K) (tCons (tVar j) (tCons (tC (.ty "tuple")) tNil))))) σ H false := fun H1 e Q k =>
  ⟨_, h, _, _, _, _, _, rfl, .ty _, .base (.tup (e _ _ hp)), kit_ty kit_tt, _, rfl, k H1 (Same.refl H1)⟩
theorem et_neV {v : V} (hs : scal v v = true) (ha : EI ta σ H v) (hb : EI tb σ H v) : ET (tTest (tOp rNe ta tb)) σ H false := fun H1 e Q k =>
  ha H1 e _ fun H2 e2 => hb H2 (e.trans e2) _ fun H3 e3 => ⟨hs, false, by rw [decide_eq_true rfl]; rfl, k H3 (e2.trans e3)⟩
theorem ei_is {v u : V} (h : EI ta σ H v) (e : v = u) : EI ta σ H u := e ▸ h
theorem ei_ixT {j : Nat} {p : Addr} {xs : List V} {v : V} {m : Int} (h : σ[j]? = some (some (.ref p))) (hp : H p = some (.tup xs)) (hv : atI xs m = some v) : EI (tOp (rIxT K) (tVar j) (tC (.int m))) σ H v := fun H1 e _ q =>
  ⟨_, h, _, _, _, _, rfl, rfl, SqT.of (e _ _ hp), hv, q H1 (Same.refl H1)⟩
theorem ei_fdiv (h : EI ta σ H (.int x)) (g : EI tb σ H (.int y)) (hy : CDivA x y) : EI (tOp (rI CDivA fun i j => .int (i.fdiv j)) ta tb) σ H (.int (x.fdiv y)) := fun H1 e _ q => h H1 e _ fun H2 e2 => g H2 (e.trans e2) _ fun H3 e3 => ⟨x, y, rfl, rfl, hy, q H3 (e2.trans e3)⟩
theorem ei_dayof {n : Int} {i : Nat} (h : EI ta σ H (.int y)) (g : EI tb σ H (.int ((i : Int) + 1))) (k : EI tc σ H (.int n)) (hi : i < 12) (y0 : 0 ≤ y) (n1 : 1 ≤ n) (n2 : n ≤ mlen i) : EI (tCall spDayOf [] E (tCons ta (tCons tb (tCons tc tNil)))) σ H (.int (365 * y + cum i + n - 1)) := fun H1 e Q q =>
  h H1 e _ fun H2 e2 => g H2 (e.trans e2) _ fun H3 e3 => k H3 ((e.trans e2).trans e3) _ fun H4 e4 => ⟨y, n, i, rfl, hi, y0, n1, n2, fun H5 e5 => q H5 (((e2.trans e3).trans e4).trans e5)⟩
theorem ei_lday {n : Int} {i : Nat} (h : EI ta σ H (.int y)) (g : EI tb σ H (.int ((i : Int) + 1))) (k : EI tc σ H (.int n)) (hi : i < 12) : EI (tCall spLDay [] E (tCons (tTup (tCons ta (tCons tb (tCons tc tNil)))) tNil)) σ H (.int (365 * y + cum i + n - 1)) := fun H1 e Q q =>
  h H1 e _ fun H2 e2 => g H2 (e.trans e2) _ fun H3 e3 => k H3 ((e.trans e2).trans e3) _ fun H4 e4 => ⟨by show 3 ≤ sizeLine; decide, fun t nt => ⟨t, y, n, i, rfl, hi, upd_same, fun H5 e5 => q H5 ((((e2.trans e3).trans e4).trans (Same.new nt)).trans e5)⟩⟩
theorem ei_weekday (h : EI ta σ H (.int day)) (d0 : 0 ≤ day) : EI (tCall spWeekday [] E (tCons ta tNil)) σ H (.int (day % 7)) := fun H1 e Q q => h H1 e _ fun H2 e2 => ⟨day, rfl, d0, q H2 e2⟩
theorem ei_business (h : EI ta σ H (.int day)) (d0 : 0 ≤ day) : EI (tCall spBusiness [] E (tCons ta tNil)) σ H (.bl (decide (day % 7 ≤ 4))) := fun H1 e Q q => h H1 e _ fun H2 e2 => ⟨day, rfl, d0, q H2 e2⟩
theorem ei_lbusiness (h : EI ta σ H (.int day)) : EI (tCall spLBusiness [] E (tCons ta tNil)) σ H (.bl (decide (day % 7 ≤ 4))) := fun H1 e Q q => h H1 e _ fun H2 e2 => ⟨day, rfl, q H2 e2⟩
theorem ei_mlen {i : Nat} (h : EI ta σ H (.int ((i : Int) + 1))) (hi : i < 12) : EI (tCall spMLen [] E (tCons ta tNil)) σ H (.int (mlen i)) := fun H1 e Q q => h H1 e _ fun H2 e2 => ⟨i, hi, rfl, q H2 e2⟩
/-- an item of _law_lengths() -/
theorem ei_lens {i : Nat} (h : EI ta σ H (.int (i : Int))) (hi : i < 12) : EI (tOp (rIxL K) (tCall spLens [] E tNil) ta) σ H (.int (mlen i)) := fun H1 e Q q =>
  ⟨rfl, fun l H2 e2 _ hl => h H2 (e.trans e2) _ fun H3 e3 => ⟨l, _, _, _, rfl, rfl, SqL.of (e3 _ _ hl), atI_nat (lens_at i hi), q H3 (e2.trans e3)⟩⟩
/-- .. with a 0 behind them -/
theorem ei_lens0 {i : Nat} (h : EI ta σ H (.int (i : Int))) (hi : i < 12) : EI (tOp (rIxL K) (tOp rCat (tCall spLens [] E tNil) (tLst (tCons (tC (.int 0)) tNil))) ta) σ H (.int (mlen i)) := fun H1 e Q q =>
  ⟨rfl, fun l H2 e2 _ hl => ⟨by show 1 ≤ sizeLine; decide, fun m nm => ⟨l, m, _, _, rfl, rfl, Same.new nm _ _ hl, upd_same, by show 13 ≤ sizeLine; decide, fun p np => by
    refine h _ (((e.trans e2).trans (Same.new nm)).trans (Same.new np)) _ fun H3 e3 => ?_
    refine ⟨p, _, _, .int (mlen i), rfl, rfl, SqL.of (e3 _ _ upd_same), atI_nat ?_, q H3 (((e2.trans (Same.new nm)).trans (Same.new np)).trans e3)⟩
    rw [List.getElem?_append_left (show i < (lens.map V.int).length from hi)]
    exact lens_at i hi⟩⟩⟩
theorem ei_ge (h : EI ta σ H (.int x)) (g : EI tb σ H (.int y)) : EI (tOp (rI0 fun i j => .bl (decide (j ≤ i))) ta tb) σ H (.bl (decide (y ≤ x))) := fun H1 e _ q => h H1 e _ fun H2 e2 => g H2 (e.trans e2) _ fun H3 e3 => ⟨x, y, rfl, rfl, q H3 (e2.trans e3)⟩
theorem ei_andV2 {a b : Bool} (h : EI ta σ H (.bl a)) (g : a = true → EI tb σ H (.bl b)) : EI (tAndV ta tb) σ H (.bl (a && b)) := fun H1 e Q q => h H1 e _ fun H2 e2 => ⟨a, rfl, by
  cases a with
  | true => exact iteT (g rfl H2 (e.trans e2) _ fun H3 e3 => q H3 (e2.trans e3))
  | false => exact iteF (q H2 e2)⟩
theorem ei_chain (h : EI ta σ H (.int x)) (g : EI tb σ H (.int y)) (k : x ≤ y → EI tc σ H (.int z)) : EI (tChain (rI0 fun i j => .bl (decide (i ≤ j))) (rI0 fun i j => .bl (decide (i ≤ j))) ta tb tc) σ H (.bl (decide (x ≤ y) && decide (y ≤ z))) := fun H1 e Q q =>
  h H1 e _ fun H2 e2 => g H2 (e.trans e2) _ fun H3 e3 => ⟨x, y, rfl, rfl, _, rfl, by
    by_cases c : x ≤ y
    · rw [decide_eq_true c] at q ⊢
      exact iteT (k c H3 ((e.trans e2).trans e3) _ fun H4 e4 => ⟨y, z, rfl, rfl, q H4 ((e2.trans e3).trans e4)⟩)
    · rw [decide_eq_false c] at q ⊢
      exact iteF (q H3 (e2.trans e3))⟩
theorem et_chain (h : EI ta σ H (.int x)) (g : EI tb σ H (.int y)) (k : EI tc σ H (.int z)) : ET (tTest (tChain (rI0 fun i j => .bl (decide (i ≤ j))) (rI0 fun i j => .bl (decide (i ≤ j))) ta tb tc)) σ H (decide (x ≤ y) && decide (y ≤ z)) := fun H1 e Q q =>
  ei_chain h g (fun _ => k) H1 e _ fun H2 e2 => ⟨_, rfl, q H2 e2⟩
theorem et_val {te : TE} {b : Bool} (h : EI te σ H (.bl b)) : ET (tB te) σ H b := fun H1 e Q q => h H1 e _ fun H2 e2 => ⟨b, rfl, q H2 e2⟩
theorem et_not {t : TT} {b : Bool} (h : ET t σ H b) : ET (tNot t) σ H (!b) := fun H1 e Q q => h H1 e _ fun H2 e2 => q H2 e2
/-- not date_of(later) > date -/
theorem et_notgt {later yy n : Int} {i j : Nat} {p : Addr} (ha : EDt ta σ H later) (h : σ[j]? = some (some (.ref p))) (hp : H p = some (dt yy i n)) (hd : DateR day yy i n) (hl : day < later) : ET (tNot (tTest (tOp (rGtT K) ta (tVar j)))) σ H false := fun H1 e Q k =>
  ha H1 e _ fun q H2 y' i' n' e2 hq hd' => ⟨.ref p, h, q, p, [y', (i' : Int) + 1, n'], [yy, (i : Int) + 1, n], rfl, rfl, SqT.of hq, SqT.of (e2 _ _ (e _ _ hp)), _, rfl, by
    have hlt := hd.later hd' hl
    have key : Ob.lexAt (fun j => decide (([y', (i' : Int) + 1, n'] : List Int).getD j 0 = ([yy, (i : Int) + 1, n] : List Int).getD j 0)) (fun j => decide (([yy, (i : Int) + 1, n] : List Int).getD j 0 < ([y', (i' : Int) + 1, n'] : List Int).getD j 0)) (decide (([y', (i' : Int) + 1, n'] : List Int).length > ([yy, (i : Int) + 1, n] : List Int).length)) 0 (min ([y', (i' : Int) + 1, n'] : List Int).length ([yy, (i : Int) + 1, n] : List Int).length) = true := by
      show (if decide (y' = yy) = true then (if decide ((i' : Int) + 1 = (i : Int) + 1) = true then (if decide (n' = n) = true then false else decide (n < n')) else decide ((i : Int) + 1 < (i' : Int) + 1)) else decide (yy < y')) = true
      rcases hlt with z | ⟨z, z2 | ⟨z2, z3⟩⟩
      · rw [decide_eq_false (show ¬ y' = yy by omega), decide_eq_true z]
        rfl
      · subst z
        rw [decide_eq_true rfl, decide_eq_false (show ¬ (i' : Int) + 1 = (i : Int) + 1 by omega), decide_eq_true (show (i : Int) + 1 < (i' : Int) + 1 by omega)]
        rfl
      · subst z
        subst z2
        rw [decide_eq_true rfl, decide_eq_true rfl, decide_eq_false (show ¬ n' = n by omega), decide_eq_true z3]
        rfl
    rw [key]
    exact k H2 e2⟩
theorem st_join {c : TT} {t u : TS} {D : Ends} {H1 : Hp} (e : Same H H1) (J : ∀ D' : Ends, (∀ H', Same H H' → D'.nx σ H') → tIfS c t u D' σ H1) (k : ∀ H', Same H H' → D.nx σ H') : tIfS c t u D σ H1 := J D k
theorem st_if {c : TT} {b : Bool} {t u : TS} {D : Ends} {H1 : Hp} (h : ET c σ H b) (e : Same H H1) (k1 : b = true → ∀ H2, Same H H2 → t D σ H2) (k2 : b = false → ∀ H2, Same H H2 → u D σ H2) : tIfS c t u D σ H1 := h H1 e _ fun H2 e2 => by
  cases b with
  | true => exact iteT (k1 rfl H2 (e.trans e2))
  | false => exact iteF (k2 rfl H2 (e.trans e2))
theorem st_set {i : Nat} {v : V} {D : Ends} {H1 : Hp} (h : EI ta σ H v) (e : Same H H1) (k : ∀ H2, Same H H2 → D.nx (σ.set i (some v)) H2) : tAsg ta (gName i) D σ H1 := h H1 e _ fun H2 e2 => k H2 (e.trans e2)
end
/-- a list display -/
def ELs (te : TE) (σ : L2.St) (H : Hp) (vs : List V) : Prop := ∀ H1, Same H H1 → ∀ Q : VK, (∀ l H2, Same H1 H2 → H2 l = some (.lst vs) → Q (.ref l) H2) → te σ H1 Q
section
variable {σ : L2.St} {H : Hp} {ta tb tc td : TE} {E : XK} {x y z : V}
theorem els1 (h : EI ta σ H x) : ELs (tLst (tCons ta tNil)) σ H [x] := fun H1 e Q q => h H1 e _ fun H2 e2 => ⟨by show 1 ≤ sizeLine; decide, fun l nl => q l _ (e2.trans (Same.new nl)) upd_same⟩
theorem els2 (h : EI ta σ H x) (g : EI tb σ H y) : ELs (tLst (tCons ta (tCons tb tNil))) σ H [x, y] := fun H1 e Q q => h H1 e _ fun H2 e2 => g H2 (e.trans e2) _ fun H3 e3 => ⟨by show 2 ≤ sizeLine; decide, fun l nl => q l _ ((e2.trans e3).trans (Same.new nl)) upd_same⟩
theorem els3 (h : EI ta σ H x) (g : EI tb σ H y) (k : EI tc σ H z) : ELs (tLst (tCons ta (tCons tb (tCons tc tNil)))) σ H [x, y, z] := fun H1 e Q q => h H1 e _ fun H2 e2 => g H2 (e.trans e2) _ fun H3 e3 => k H3 ((e.trans e2).trans e3) _ fun H4 e4 => ⟨by show 3 ≤ sizeLine; decide, fun l nl => q l _ (((e2.trans e3).trans e4).trans (Same.new nl)) upd_same⟩
theorem ei_refuses {P : Program} {w : World} {K : PySem.W.Frag} {mg : Str → Option Value} {base : Heap} {k : Nat} {CD CW C f : Addr} {wd : Str} {args : List V} (h : EI ta σ H (.ref f)) (g : ELs tb σ H args) (hn : 1 ≤ args.length ∧ args.length ≤ 4) (hr : RaisesAt P w K mg base k f args C) (hw : (C = CD ∧ wd = "day") ∨ (C = CW ∧ wd = "word")) :
    EI (tCall (spRefuses P w K mg base k CD CW) [] E (tCons ta (tCons tb (tCons (tC (.str wd)) tNil)))) σ H (.bl true) := fun H1 e Q q =>
  h H1 e _ fun H2 e2 => g H2 (e.trans e2) _ fun L H3 e3 hL => ⟨f, L, args, C, wd, rfl, hL, hn, hr, hw, fun H4 e4 => q H4 ((e2.trans e3).trans e4)⟩
end
def spDrawnDay (K : PySem.W.Frag) : Sp := fun vs H Q _ => ∃ d : Addr, vs = [.ref d] ∧ St5 K H d ∧ ∀ v H', 0 ≤ v → v < 1000000000000 → But d H H' → St5 K H' d → Q (.int v) H'
end Cs
set_option maxHeartbeats 4000000
namespace Cs
open PySem PySem.Spec PyProof.Rows L2
/-! ### the month of a day -/
theorem dateR_ex (day : Int) : ∃ y i n, DateR day y i n := by
  have r0 : 0 ≤ day % 365 := Int.emod_nonneg _ (by decide)
  have r1 : day % 365 < 365 := Int.emod_lt_of_pos _ (by decide)
  have key : ∀ (i : Nat) (c m : Int), i < 12 → cum i = c → mlen i = m → c ≤ day % 365 → day % 365 < c + m → ∃ y i n, DateR day y i n := fun i c m hi hc hm h1 h2 =>
    ⟨day / 365, i, day % 365 - c + 1, hi, by omega, by omega, by rw [hc]; omega⟩
  by_cases h0 : day % 365 < 31
  · exact key 0 0 31 (by decide) (by decide) (by decide) (by omega) (by omega)
  by_cases h1 : day % 365 < 59
  · exact key 1 31 28 (by decide) (by decide) (by decide) (by omega) (by omega)
  by_cases h2 : day % 365 < 90
  · exact key 2 59 31 (by decide) (by decide) (by decide) (by omega) (by omega)
  by_cases h3 : day % 365 < 120
  · exact key 3 90 30 (by decide) (by decide) (by decide) (by omega) (by omega)
  by_cases h4 : day % 365 < 151
  · exact key 4 120 31 (by decide) (by decide) (by decide) (by omega) (by omega)
  by_cases h5 : day % 365 < 181
  · exact key 5 151 30 (by decide) (by decide) (by decide) (by omega) (by omega)
  by_cases h6 : day % 365 < 212
  · exact key 6 181 31 (by decide) (by decide) (by decide) (by omega) (by omega)
  by_cases h7 : day % 365 < 243
  · exact key 7 212 31 (by decide) (by decide) (by decide) (by omega) (by omega)
  by_cases h8 : day % 365 < 273
  · exact key 8 243 30 (by decide) (by decide) (by decide) (by omega) (by omega)
  by_cases h9 : day % 365 < 304
  · exact key 9 273 31 (by decide) (by decide) (by decide) (by omega) (by omega)
  by_cases h10 : day % 365 < 334
  · exact key 10 304 30 (by decide) (by decide) (by decide) (by omega) (by omega)
  · exact key 11 334 31 (by decide) (by decide) (by decide) (by omega) (by omega)
theorem mon_ex (day : Int) : ∃ m : Int, ∃ y i n, DateR day y i n ∧ m = 12 * y + (i : Int) := by
  obtain ⟨y, i, n, h⟩ := dateR_ex day
  exact ⟨_, y, i, n, h, rfl⟩
noncomputable def mon (day : Int) : Int := Classical.choose (mon_ex day)
theorem DateR.mon {day y n : Int} {i : Nat} (h : DateR day y i n) : mon day = 12 * y + (i : Int) := by
  obtain ⟨y', i', n', g, e⟩ := Classical.choose_spec (mon_ex day)
  obtain ⟨rfl, rfl, _⟩ := h.unique g
  exact e
theorem mon_mono {a b : Int} (h : a ≤ b) : mon a ≤ mon b := by
  rcases Int.lt_or_eq_of_le h with z | z
  · obtain ⟨y, i, n, ha⟩ := dateR_ex a
    obtain ⟨y', i', n', hb⟩ := dateR_ex b
    rw [ha.mon, hb.mon]
    have hi := ha.hi
    have hi' := hb.hi
    rcases ha.later hb z with q | ⟨q, q2 | ⟨q2, _⟩⟩ <;> omega
  · rw [z]; exact Int.le_refl _
/-- days not further than two days apart: the same number of the month is the same month -/
theorem mon_near {a b y y' n n' : Int} {i i' : Nat} (ha : DateR a y i n) (hb : DateR b y' i' n') (h : a ≤ b) (h2 : b ≤ a + 2) : ((i' : Int) + 1 = (i : Int) + 1) ↔ mon b = mon a := by
  rw [ha.mon, hb.mon]
  have hi := ha.hi
  have hi' := hb.hi
  have e1 := ha.e
  have e2 := hb.e
  have r1 := ha.rest
  have r2 := hb.rest
  have n1 := ha.n1
  have n2 := hb.n1
  have l1 := ha.n2
  have l2 := hb.n2
  have m1 := (mlen_pos i hi).2
  have m2 := (mlen_pos i' hi').2
  constructor
  · intro e
    have e : i = i' := by omega
    subst e
    have : y = y' := by omega
    rw [this]
  · intro e
    omega
/-! ### the day that a word makes of a day -/
noncomputable def adj (day : Int) (w : Str) : Int :=
  if day % 7 ≤ 4 ∨ w = "none" then day else if w = "before" then day - day % 7 + 4 else if w = "modified" ∧ mon (day - day % 7 + 7) ≠ mon day then day - day % 7 + 4 else day - day % 7 + 7
theorem adj_same {d : Int} {w : Str} (h : d % 7 ≤ 4 ∨ w = "none") : adj d w = d := if_pos h
theorem adj_wk {d : Int} {w : Str} (h : ¬ (d % 7 ≤ 4 ∨ w = "none")) : adj d w = if w = "before" then d - d % 7 + 4 else if w = "modified" ∧ mon (d - d % 7 + 7) ≠ mon d then d - d % 7 + 4 else d - d % 7 + 7 := if_neg h
theorem adj_cases {d : Int} {w : Str} (h : ¬ (d % 7 ≤ 4 ∨ w = "none")) : adj d w = d - d % 7 + 4 ∨ adj d w = d - d % 7 + 7 := by
  unfold adj
  rw [if_neg h]
  by_cases h1 : w = "before"
  · rw [if_pos h1]; exact .inl rfl
  · rw [if_neg h1]
    by_cases h2 : w = "modified" ∧ mon (d - d % 7 + 7) ≠ mon d
    · rw [if_pos h2]; exact .inl rfl
    · rw [if_neg h2]; exact .inr rfl
theorem adj_bus {d : Int} {w : Str} (h : w ≠ "none") : adj d w % 7 ≤ 4 := by
  by_cases c : d % 7 ≤ 4 ∨ w = "none"
  · rw [adj_same c]
    rcases c with c | c
    · exact c
    · exact absurd c h
  · rcases adj_cases c with e | e <;> rw [e] <;> omega
theorem adj_idem (d : Int) (w : Str) : adj (adj d w) w = adj d w := by
  by_cases h : w = "none"
  · exact adj_same (.inr h)
  · exact adj_same (.inl (adj_bus h))
theorem adj_nn {d : Int} {w : Str} (h : 0 ≤ d) : 0 ≤ adj d w := by
  by_cases c : d % 7 ≤ 4 ∨ w = "none"
  · rw [adj_same c]; exact h
  · have c1 : ¬ d % 7 ≤ 4 := fun z => c (.inl z)
    rcases adj_cases c with e | e <;> rw [e] <;> omega
theorem adj_mono {d e : Int} {w : Str} (h : d ≤ e) : adj d w ≤ adj e w := by
  by_cases hn : w = "none"
  · rw [adj_same (.inr hn), adj_same (.inr hn)]; exact h
  by_cases c : d % 7 ≤ 4
  · rw [adj_same (.inl c)]
    by_cases c2 : e % 7 ≤ 4
    · rw [adj_same (.inl c2)]; exact h
    · rcases adj_cases (d := e) (w := w) (fun z => z.elim c2 hn) with q | q <;> rw [q] <;> omega
  · have hc := adj_cases (d := d) (w := w) (fun z => z.elim c hn)
    by_cases c2 : e % 7 ≤ 4
    · rw [adj_same (.inl c2)]
      rcases hc with q | q <;> rw [q] <;> omega
    · have hc2 := adj_cases (d := e) (w := w) (fun z => z.elim c2 hn)
      by_cases wk : e - e % 7 = d - d % 7
      · -- the same week
        rw [adj_wk (d := d) (w := w) (fun z => Or.elim z c hn), adj_wk (d := e) (w := w) (fun z => Or.elim z c2 hn)]
        by_cases hb : w = "before"
        · rw [if_pos hb, if_pos hb]; omega
        · rw [if_neg hb, if_neg hb]
          by_cases h1 : w = "modified" ∧ mon (d - d % 7 + 7) ≠ mon d
          · rw [if_pos h1]
            by_cases h2 : w = "modified" ∧ mon (e - e % 7 + 7) ≠ mon e
            · rw [if_pos h2]; omega
            · rw [if_neg h2]; omega
          · rw [if_neg h1]
            have h2 : ¬ (w = "modified" ∧ mon (e - e % 7 + 7) ≠ mon e) := fun z => by
              refine h1 ⟨z.1, fun q => z.2 ?_⟩
              rw [wk] at z ⊢
              have m1 := mon_mono h
              have m2 := mon_mono (a := e) (b := d - d % 7 + 7) (by omega)
              omega
            rw [if_neg h2]; omega
      · rcases hc with q | q <;> rcases hc2 with q2 | q2 <;> rw [q, q2] <;> omega
/-! ### tests -/
section
variable {K : PySem.W.Frag} {σ : L2.St} {H : Hp} {ta tb tc : TE} {t u : TT} {E : XK} {day : Int} {x y : Int}
theorem et_orB {a b : Bool} (h : ET t σ H a) (g : ET u σ H b) : ET (tOr t u) σ H (a || b) := fun H1 e Q k => h H1 e _ fun H2 e2 => by
  cases a with
  | true => exact iteT (k H2 e2)
  | false => exact iteF (g H2 (e.trans e2) _ fun H3 e3 => k H3 (e2.trans e3))
theorem et_andB {a b : Bool} (h : ET t σ H a) (g : a = true → ET u σ H b) : ET (tAnd t u) σ H (a && b) := fun H1 e Q k => h H1 e _ fun H2 e2 => by
  cases a with
  | true => exact iteT (g rfl H2 (e.trans e2) _ fun H3 e3 => k H3 (e2.trans e3))
  | false => exact iteF (k H2 e2)
theorem et_is {b c : Bool} (h : ET t σ H b) (e : b = c) : ET t σ H c := e ▸ h
theorem et_eqV {v w : V} (hs : scal v w = true) (ha : EI ta σ H v) (hb : EI tb σ H w) : ET (tTest (tOp rEq ta tb)) σ H (decide (v = w)) := fun H1 e Q k =>
  ha H1 e _ fun H2 e2 => hb H2 (e.trans e2) _ fun H3 e3 => ⟨hs, _, rfl, k H3 (e2.trans e3)⟩
theorem et_neW {v w : V} (hs : scal v w = true) (ha : EI ta σ H v) (hb : EI tb σ H w) : ET (tTest (tOp rNe ta tb)) σ H (!decide (v = w)) := fun H1 e Q k =>
  ha H1 e _ fun H2 e2 => hb H2 (e.trans e2) _ fun H3 e3 => ⟨hs, _, rfl, k H3 (e2.trans e3)⟩
theorem et_lt (ha : EI ta σ H (.int x)) (hb : EI tb σ H (.int y)) : ET (tTest (tOp (rI0 fun i j => .bl (decide (i < j))) ta tb)) σ H (decide (x < y)) := fun H1 e Q k =>
  ha H1 e _ fun H2 e2 => hb H2 (e.trans e2) _ fun H3 e3 => ⟨x, y, rfl, rfl, _, rfl, k H3 (e2.trans e3)⟩
def spMonthOf : Sp := fun vs H Q _ => ∃ day : Int, vs = [.int day] ∧ 0 ≤ day ∧ ∀ (t : Addr) (H' : Hp) (y : Int) (i : Nat) (n : Int), Same H H' → H' t = some (.tup [.int y, .int ((i : Int) + 1)]) → DateR day y i n → Q (.ref t) H'
theorem et_neMo (ha : EI ta σ H (.int x)) (hb : EI tb σ H (.int y)) (x0 : 0 ≤ x) (y0 : 0 ≤ y) : ET (tTest (tOp (rNeD K) (tCall spMonthOf [] E (tCons ta tNil)) (tCall spMonthOf [] E (tCons tb tNil)))) σ H (decide (mon x ≠ mon y)) := fun H1 e Q k =>
  ha H1 e _ fun H2 e2 => ⟨x, rfl, x0, fun p H3 yy i n e3 hp hd => hb H3 ((e.trans e2).trans e3) _ fun H4 e4 => ⟨y, rfl, y0, fun p' H5 yy' i' n' e5 hp' hd' => by
    refine ⟨.tuple [.int yy, .int ((i : Int) + 1)], .tuple [.int yy', .int ((i' : Int) + 1)], .tup (SqT.of (e5 _ _ (e4 _ _ hp))) (.cons (.int _) (.cons (.int _) .nil)), .tup (SqT.of hp') (.cons (.int _) (.cons (.int _) .nil)), by rfl, by rfl, _, rfl, ?_⟩
    have key : (!PyData.eqv (.tuple [.int yy, .int ((i : Int) + 1)]) (.tuple [.int yy', .int ((i' : Int) + 1)])) = decide (mon x ≠ mon y) := by
      have hi := hd.hi
      have hi' := hd'.hi
      rw [hd.mon, hd'.mon]
      by_cases c : yy = yy' ∧ i = i'
      · obtain ⟨rfl, rfl⟩ := c
        simp [PyData.eqv, PyData.eqvAll]
      · have c' : 12 * yy + (i : Int) ≠ 12 * yy' + (i' : Int) := fun z => c ⟨by omega, by omega⟩
        rw [decide_eq_true c']
        have : PyData.eqv (.tuple [.int yy, .int ((i : Int) + 1)]) (.tuple [.int yy', .int ((i' : Int) + 1)]) = false := by
          simp [PyData.eqv, PyData.eqvAll]
          intro z
          exact fun q => c ⟨z, by omega⟩
        rw [this]; rfl
    rw [key]
    exact k H5 (((e2.trans e3).trans e4).trans e5)⟩⟩
theorem et_eqMo (ha : EI ta σ H (.int x)) (hb : EI tb σ H (.int y)) (x0 : 0 ≤ x) (y0 : 0 ≤ y) (h1 : y ≤ x) (h2 : x ≤ y + 2) : ET (tTest (tOp rEq (tOp (rIxT K) (tCall spDateOf [] E (tCons ta tNil)) (tC (.int 1))) (tOp (rIxT K) (tCall spDateOf [] E (tCons tb tNil)) (tC (.int 1))))) σ H (decide (mon x = mon y)) := fun H1 e Q k =>
  ha H1 e _ fun H2 e2 => ⟨x, rfl, x0, fun p H3 yy i n e3 hp hd => ⟨_, _, _, _, rfl, rfl, SqT.of hp, rfl, hb H3 ((e.trans e2).trans e3) _ fun H4 e4 => ⟨y, rfl, y0, fun p' H5 yy' i' n' e5 hp' hd' => ⟨_, _, _, _, rfl, rfl, SqT.of hp', rfl, rfl, _, rfl, by
    have key : decide (V.int ((i : Int) + 1) = V.int ((i' : Int) + 1)) = decide (mon x = mon y) := decide_eq_decide.mpr ⟨fun z => (mon_near hd' hd h1 h2).mp (V.int.inj z), fun z => congrArg V.int ((mon_near hd' hd h1 h2).mpr z)⟩
    rw [key]
    exact k H5 (((e2.trans e3).trans e4).trans e5)⟩⟩⟩⟩
def spAdjust : Sp := fun vs H Q _ => ∃ (day : Int) (w : Str), vs = [.int day, .str w] ∧ 0 ≤ day ∧ w ∈ ([("none" : Str), "next", "before", "modified"] : List Str) ∧ ∀ H', Same H H' → Q (.int (adj day w)) H'
theorem ei_adjust {w : Str} (ha : EI ta σ H (.int day)) (hb : EI tb σ H (.str w)) (d0 : 0 ≤ day) (hw : w ∈ ([("none" : Str), "next", "before", "modified"] : List Str)) : EI (tCall spAdjust [] E (tCons ta (tCons tb tNil))) σ H (.int (adj day w)) := fun H1 e Q q =>
  ha H1 e _ fun H2 e2 => hb H2 (e.trans e2) _ fun H3 e3 => ⟨day, w, rfl, d0, hw, fun H4 e4 => q H4 ((e2.trans e3).trans e4)⟩
def spLAdj : Sp := fun vs H Q _ => ∃ (day : Int) (z : Str), vs = [.int day, .str z] ∧ 0 ≤ day ∧ day < 2 ^ 40 ∧ z ∈ ([("none" : Str), "next", "before", "modified"] : List Str) ∧ ∀ H', Same H H' → Q (.int (adj day z)) H'
theorem ei_ladj {w : Str} (ha : EI ta σ H (.int day)) (hb : EI tb σ H (.str w)) (d0 : 0 ≤ day) (dm : day < 2 ^ 40) (hw : w ∈ ([("none" : Str), "next", "before", "modified"] : List Str)) : EI (tCall spLAdj [] E (tCons ta (tCons tb tNil))) σ H (.int (adj day w)) := fun H1 e Q q =>
  ha H1 e _ fun H2 e2 => hb H2 (e.trans e2) _ fun H3 e3 => ⟨day, w, rfl, d0, dm, hw, fun H4 e4 => q H4 ((e2.trans e3).trans e4)⟩
theorem st_joinX {c : TT} {t u : TS} {D : Ends} {H1 : Hp} (Pd : L2.St → Hp → Prop) (J : ∀ D' : Ends, (∀ σ' H', Pd σ' H' → D'.nx σ' H') → tIfS c t u D' σ H1) (k : ∀ σ' H', Pd σ' H' → D.nx σ' H') : tIfS c t u D σ H1 := J { D with nx := Pd } (fun _ _ h => h) |> fun z => J D k
end
/-- the first business day of a walk over three days -/
theorem ei_first {K : PySem.W.Frag} {σ : L2.St} {H : Hp} {E : XK} {J : It} {f : Nat → Int} {j0 sl : Nat} {wi : TI} (w : Walk J 3 (fun _ => True) (YFn fun i => .int (f i))) (hw : ∀ H1, Same H H1 → ∀ R : It → Hp → Prop, (∀ H2, Same H1 H2 → R J H2) → wi σ H1 R)
    (w1 : ∀ x, wipe ((wipe σ [sl]).set sl (some x)) [sl] = wipe σ [sl]) (w2 : ∀ x : V, ((wipe σ [sl]).set sl (some x))[sl]? = some (some x)) (h0 : j0 < 3) (hn : ∀ j, j < j0 → ¬ f j % 7 ≤ 4) (hy : f j0 % 7 ≤ 4) :
    EI (tOp (rIxL K) (tLc wi (gName sl) (tB (tCall spLBusiness [] E (tCons (tVar sl) tNil))) (tVar sl) [sl]) (tC (.int 0))) σ H (.int (f j0)) := fun H1 e Q q => by
  refine hw H1 e _ fun H2 e2 D hD => lc_it w (fun i H' => ∃ acc, H' D = some (.lst acc) ∧ acc.length ≤ i ∧ Same H2 H' ∧ (i ≤ j0 → acc = []) ∧ (j0 < i → acc[0]? = some (.int (f j0)))) ⟨[], upd_same, Nat.le_refl _, Same.new hD, fun _ => rfl, fun z => absurd z (Nat.not_lt_zero _)⟩ (fun _ _ _ _ => trivial) ?_ ?_
  · rintro i x H3 H4 hi ⟨acc, ha, hl, hs, z1, z2⟩ ⟨rfl, rfl⟩
    refine ⟨w1 _, _, w2 _, f i, rfl, _, rfl, ?_⟩
    refine ite2 (fun hb => ?_) (fun hb => ?_)
    · have hb := of_decide_eq_true hb
      have hj : j0 ≤ i := Nat.le_of_not_lt fun z => hn i z hb
      refine ⟨_, w2 _, acc, ha, Nat.lt_of_lt_of_le (show acc.length < 3 by omega) (by rw [sizeLine_eq]; decide), acc ++ [.int (f i)], upd_same, by simp; omega, ?_, fun z => absurd z (by omega), fun _ => ?_⟩
      · intro b o hb'
        by_cases c : b = D
        · rw [c, hD] at hb'; cases hb'
        · rw [upd_ne c]; exact hs b o hb'
      · rcases Nat.lt_or_ge j0 i with z | z
        · have hz := z2 z
          rw [List.getElem?_append_left (by
            rcases acc with _ | ⟨a, as⟩
            · cases hz
            · simp)]
          exact hz
        · have e : i = j0 := by omega
          subst e
          rw [z1 (Nat.le_refl _)]
          rfl
    · have hb : ¬ f i % 7 ≤ 4 := fun z => hb (decide_eq_true z)
      have hj : i ≠ j0 := fun z => by rw [z] at hb; exact hb hy
      exact ⟨acc, ha, by omega, hs, fun z => z1 (by omega), fun z => z2 (by omega)⟩
  · rintro H' ⟨acc, ha, hl, hs, z1, z2⟩
    exact ⟨D, acc, _, _, rfl, rfl, SqL.of ha, atI_nat (j := 0) (z2 h0), q H' (e2.trans hs)⟩
end Cs
set_option maxHeartbeats 4000000
namespace Cs
open PySem PySem.Spec PyProof.Rows L2
/-! ### months -/
def fsm (M : Int) : Int := 365 * (M / 12) + cum (M % 12).toNat
def ml (M : Int) : Int := mlen (M % 12).toNat
theorem ix12 (M : Int) : (M % 12).toNat < 12 := by
  have := Int.emod_nonneg M (show (12 : Int) ≠ 0 by decide)
  have := Int.emod_lt_of_pos M (show (0 : Int) < 12 by decide)
  omega
theorem ml_bd (M : Int) : 28 ≤ ml M ∧ ml M ≤ 31 := mlen_pos _ (ix12 M)
theorem fsm_lt {M N : Int} (h : M < N) : fsm M + ml M ≤ fsm N := by
  have i1 := ix12 M
  have i2 := ix12 N
  have s := cum_succ _ i1
  have b1 := cum_mono ((M % 12).toNat + 1) (by omega) 12 (by decide) (by omega)
  rw [cum_all] at b1
  have b0 := (cum_bd (N % 12).toNat (by omega)).1
  have e1 : (M % 12).toNat = M % 12 := Int.toNat_of_nonneg (Int.emod_nonneg M (by decide))
  have e2 : (N % 12).toNat = N % 12 := Int.toNat_of_nonneg (Int.emod_nonneg N (by decide))
  unfold fsm ml
  by_cases c : M / 12 = N / 12
  · have := cum_mono ((M % 12).toNat + 1) (by omega) (N % 12).toNat (by omega) (by omega)
    omega
  · omega
noncomputable def num (s : Int) : Int := s - fsm (mon s) + 1
theorem fsm_of (y : Int) (i : Nat) (hi : i < 12) : fsm (12 * y + (i : Int)) = 365 * y + cum i ∧ ml (12 * y + (i : Int)) = mlen i := by
  have e1 : (12 * y + (i : Int)) / 12 = y := by omega
  have e2 : ((12 * y + (i : Int)) % 12).toNat = i := by omega
  unfold fsm ml
  rw [e1, e2]
  exact ⟨rfl, rfl⟩
theorem DateR.num {s y n : Int} {i : Nat} (h : DateR s y i n) : num s = n := by
  unfold Cs.num
  rw [h.mon, (fsm_of y i h.hi).1]
  have := h.e
  omega
theorem num_bd (s : Int) : 1 ≤ num s ∧ num s ≤ ml (mon s) := by
  obtain ⟨y, i, n, h⟩ := dateR_ex s
  rw [h.num, h.mon, (fsm_of y i h.hi).2]
  exact ⟨h.n1, h.n2⟩
theorem day_eq (s : Int) : s = fsm (mon s) + num s - 1 := by
  unfold num
  omega
def mn (n m : Int) : Int := if m < n then m else n
theorem mn_le (n m : Int) : mn n m ≤ n ∧ mn n m ≤ m := by
  unfold mn
  by_cases c : m < n
  · rw [if_pos c]; omega
  · rw [if_neg c]; omega
theorem mn_or (n m : Int) : mn n m = n ∨ mn n m = m := by
  unfold mn
  by_cases c : m < n
  · rw [if_pos c]; exact .inr rfl
  · rw [if_neg c]; exact .inl rfl
theorem mn_mono {n n' : Int} (m : Int) (h : n ≤ n') : mn n m ≤ mn n' m := by
  have h1 := mn_le n m
  rcases mn_or n' m with e | e <;> rw [e] <;> omega
noncomputable def lat (s c : Int) : Int := fsm (mon s + c) + mn (num s) (ml (mon s + c)) - 1
theorem lat_bd (s c : Int) : 1 ≤ mn (num s) (ml (mon s + c)) ∧ mn (num s) (ml (mon s + c)) ≤ ml (mon s + c) := by
  have h1 := num_bd s
  have h2 := ml_bd (mon s + c)
  have h3 := mn_le (num s) (ml (mon s + c))
  rcases mn_or (num s) (ml (mon s + c)) with e | e <;> rw [e] <;> rw [e] at h3 <;> omega
theorem lat_date (s c : Int) : DateR (lat s c) ((mon s + c) / 12) ((mon s + c) % 12).toNat (mn (num s) (ml (mon s + c))) := by
  have h := lat_bd s c
  exact ⟨ix12 _, h.1, h.2, by unfold lat fsm; rfl⟩
theorem mon_lat (s c : Int) : mon (lat s c) = mon s + c := by
  rw [(lat_date s c).mon, Int.toNat_of_nonneg (Int.emod_nonneg _ (by decide))]
  omega
theorem num_lat (s c : Int) : num (lat s c) = mn (num s) (ml (mon s + c)) := (lat_date s c).num
theorem lat_zero (s : Int) : lat s 0 = s := by
  have h := num_bd s
  unfold lat
  rw [Int.add_zero]
  have e : mn (num s) (ml (mon s)) = num s := by
    unfold mn
    rw [if_neg (by omega)]
  rw [e]
  exact (day_eq s).symm
theorem lat_two (s a b : Int) : lat (lat s a) b ≤ lat s (a + b) := by
  have e : lat (lat s a) b = fsm (mon (lat s a) + b) + mn (num (lat s a)) (ml (mon (lat s a) + b)) - 1 := rfl
  rw [e, mon_lat, num_lat, Int.add_assoc]
  have h1 := (mn_le (num s) (ml (mon s + a))).1
  have h2 := mn_mono (ml (mon s + (a + b))) h1
  unfold lat
  omega
theorem lat_mono {s t : Int} (a : Int) (h : s ≤ t) : lat s a ≤ lat t a := by
  have hm := mon_mono h
  rcases Int.lt_or_eq_of_le hm with z | z
  · have h1 := fsm_lt (M := mon s + a) (N := mon t + a) (by omega)
    have h2 := lat_bd s a
    have h3 := lat_bd t a
    unfold lat
    omega
  · have d1 := day_eq s
    have d2 := day_eq t
    rw [z] at d1
    have := mn_mono (ml (mon t + a)) (show num s ≤ num t by omega)
    unfold lat
    rw [z]
    omega
theorem lat_lt (s : Int) {a b : Int} (h : a < b) : lat s a < lat s b := by
  have h1 := fsm_lt (M := mon s + a) (N := mon s + b) (by omega)
  have h2 := lat_bd s a
  have h3 := lat_bd s b
  unfold lat
  omega
theorem lat_ge {s m : Int} (h : 1 ≤ m) : ∀ t : Nat, s + (t : Int) ≤ lat s (m * (t : Int))
  | 0 => by
    rw [show m * ((0 : Nat) : Int) = 0 by simp, lat_zero]
    simp
  | t + 1 => by
    have ih := lat_ge (s := s) h t
    have := lat_lt s (a := m * (t : Int)) (b := m * ((t + 1 : Nat) : Int)) (by rw [Int.natCast_succ, Int.mul_add]; omega)
    omega
theorem lat_nn {s c : Int} (h : 0 ≤ s) (hc : 0 ≤ c) : 0 ≤ lat s c := by
  rcases Int.lt_or_eq_of_le hc with z | z
  · have := lat_lt s z
    rw [lat_zero] at this
    omega
  · rw [← z, lat_zero]
    exact h
/-! ### the days of a schedule -/
structure SchedOk (s e m : Int) (T : Nat) : Prop where
  lo : ∀ t : Nat, t < T → lat s (m * (t : Int)) < e
  hi : e ≤ lat s (m * (T : Int))
theorem SchedOk.unique {s e m : Int} {T T' : Nat} (h : SchedOk s e m T) (g : SchedOk s e m T') : T = T' := by
  rcases Nat.lt_trichotomy T T' with z | z | z
  · have := g.lo T z
    have := h.hi
    omega
  · exact z
  · have := h.lo T' z
    have := g.hi
    omega
noncomputable def days0 (s m : Int) (T : Nat) : List Int := (List.range T).map fun t => lat s (m * ((t : Nat) : Int))
theorem days0_succ (s m : Int) (T : Nat) : days0 s m (T + 1) = days0 s m T ++ [lat s (m * (T : Int))] := by
  unfold days0
  rw [List.range_succ, List.map_append]
  rfl
theorem days0_len (s m : Int) (T : Nat) : (days0 s m T).length = T := by simp [days0]
noncomputable def sched (s e m : Int) (T : Nat) : List Int := days0 s m T ++ [e]
theorem sched_len (s e m : Int) (T : Nat) : (sched s e m T).length = T + 1 := by simp [sched, days0]
noncomputable def sday (s e m : Int) (T j : Nat) : Int := if j < T then lat s (m * (j : Int)) else e
theorem sched_at {s e m : Int} {T j : Nat} (h : j ≤ T) : (sched s e m T)[j]? = some (sday s e m T j) := by
  unfold sched sday
  rcases Nat.lt_or_ge j T with z | z
  · rw [if_pos z, List.getElem?_append_left (by rw [days0_len]; exact z)]
    simp [days0, z]
  · have : j = T := by omega
    subst this
    rw [if_neg (by omega), List.getElem?_append_right (by rw [days0_len]; omega), days0_len, Nat.sub_self]
    rfl
theorem sched_up {s e m : Int} {T j : Nat} (h : SchedOk s e m T) (hm : 1 ≤ m) (hj : j < T) : sday s e m T j < sday s e m T (j + 1) := by
  unfold sday
  rw [if_pos hj]
  by_cases c : j + 1 < T
  · rw [if_pos c]
    exact lat_lt s (by rw [Int.natCast_succ, Int.mul_add]; omega)
  · rw [if_neg c]
    exact h.lo j hj
theorem SchedOk.bd {s e m : Int} {T : Nat} (h : SchedOk s e m T) (hm : 1 ≤ m) (he : s < e) : (T : Int) ≤ e - s ∧ 1 ≤ T := by
  constructor
  · rcases T with _ | T
    · simp; omega
    · have := h.lo T (by omega)
      have := lat_ge (s := s) hm T
      rw [Int.natCast_succ]
      omega
  · rcases T with _ | T
    · have := h.hi
      rw [show m * ((0 : Nat) : Int) = 0 by simp, lat_zero] at this
      omega
    · omega
theorem sday_nn {s e m : Int} {T j : Nat} (s0 : 0 ≤ s) (e0 : 0 ≤ e) (hm : 1 ≤ m) : 0 ≤ sday s e m T j := by
  unfold sday
  by_cases c : j < T
  · rw [if_pos c]
    exact lat_nn s0 (Int.mul_nonneg (by omega) (by omega))
  · rw [if_neg c]
    exact e0
theorem sday_zero {s e m : Int} {T : Nat} (h : 1 ≤ T) : sday s e m T 0 = s := by
  unfold sday
  rw [if_pos (by omega), show m * ((0 : Nat) : Int) = 0 by simp, lat_zero]
theorem sday_end {s e m : Int} {T : Nat} : sday s e m T T = e := by
  unfold sday
  rw [if_neg (by omega)]
theorem sday_le {s e m : Int} {T j : Nat} (h : SchedOk s e m T) : sday s e m T j ≤ e := by
  unfold sday
  by_cases c : j < T
  · rw [if_pos c]
    exact Int.le_of_lt (h.lo j c)
  · rw [if_neg c]
    exact Int.le_refl _
end Cs
namespace Cs
open PySem PySem.Spec PyProof.Rows L2
def spAddM : Sp := fun vs H Q _ => ∃ day c : Int, vs = [.int day, .int c] ∧ 0 ≤ day ∧ 0 ≤ c ∧ ∀ H', Same H H' → Q (.int (lat day c)) H'
def spSched : Sp := fun vs H Q _ => ∃ s e m : Int, vs = [.int s, .int e, .int m] ∧ 0 ≤ s ∧ s < e ∧ e ≤ s + 2000 ∧ 1 ≤ m ∧ m.natAbs < 2 ^ 64 ∧ ∀ (L : Addr) (H' : Hp) (T : Nat), Same H H' → SchedOk s e m T → H' L = some (.lst ((sched s e m T).map V.int)) → Q (.ref L) H'
/-- rows of a schedule at L -/
noncomputable def RowV (s e m : Int) (T : Nat) (z : Str) (j : Nat) : List V := [.int (sday s e m T j), .int (sday s e m T (j + 1)), .int (adj (sday s e m T (j + 1)) z)]
noncomputable def rowD (s e m : Int) (T : Nat) (z : Str) (j : Nat) : PyData := .tuple [.int (sday s e m T j), .int (sday s e m T (j + 1)), .int (adj (sday s e m T (j + 1)) z)]
noncomputable def rowsD (s e m : Int) (T : Nat) (z : Str) (n : Nat) : List PyData := (List.range n).map (rowD s e m T z)
/-- the first n rows, in new tuples -/
def RowsAt (H : Hp) (s e m : Int) (T : Nat) (z : Str) (n : Nat) (acc : List V) : Prop := acc.length = n ∧ ∀ j, j < n → ∃ t : Addr, acc[j]? = some (.ref t) ∧ H t = some (.tup (RowV s e m T z j))
theorem RowsAt.same {H H' : Hp} {s e m : Int} {T : Nat} {z : Str} {n : Nat} {acc : List V} (h : RowsAt H s e m T z n acc) (k : Same H H') : RowsAt H' s e m T z n acc := ⟨h.1, fun j hj => by
  obtain ⟨t, h1, h2⟩ := h.2 j hj
  exact ⟨t, h1, k _ _ h2⟩⟩
theorem RowsAt.snoc {H : Hp} {s e m : Int} {T : Nat} {z : Str} {n : Nat} {acc : List V} {t : Addr} (h : RowsAt H s e m T z n acc) (ht : H t = some (.tup (RowV s e m T z n))) : RowsAt H s e m T z (n + 1) (acc ++ [.ref t]) := ⟨by simp [h.1], fun j hj => by
  rcases Nat.lt_or_ge j n with q | q
  · obtain ⟨t', h1, h2⟩ := h.2 j q
    exact ⟨t', by rw [List.getElem?_append_left (by rw [h.1]; exact q)]; exact h1, h2⟩
  · have : j = n := by omega
    subst this
    refine ⟨t, ?_, ht⟩
    rw [List.getElem?_append_right (by rw [h.1]; exact Nat.le_refl _), h.1, Nat.sub_self]
    rfl⟩
theorem dpAll_map {K : PySem.W.Frag} {H : Hp} (f : Nat → PyData) : ∀ (acc : List V) (i : Nat), (∀ j, j < acc.length → ∃ v, acc[j]? = some v ∧ Dp K H v (f (i + j))) → DpAll K H acc ((List.range' i acc.length).map f)
  | [], i, _ => .nil
  | v :: acc, i, h => by
    rw [List.length_cons, List.range'_succ, List.map_cons]
    obtain ⟨u, e, hu⟩ := h 0 (by simp)
    cases e
    refine .cons hu (dpAll_map f acc (i + 1) fun j hj => ?_)
    obtain ⟨u, e, hu⟩ := h (j + 1) (by simp; omega)
    refine ⟨u, by simpa using e, ?_⟩
    rw [show i + 1 + j = i + (j + 1) by omega]
    exact hu
theorem RowsAt.dp {K : PySem.W.Frag} {H : Hp} {s e m : Int} {T : Nat} {z : Str} {n : Nat} {acc : List V} (h : RowsAt H s e m T z n acc) : DpAll K H acc (rowsD s e m T z n) := by
  have q := dpAll_map (K := K) (H := H) (rowD s e m T z) acc 0 fun j hj => by
    rw [h.1] at hj
    obtain ⟨t, h1, h2⟩ := h.2 j hj
    refine ⟨_, h1, ?_⟩
    rw [Nat.zero_add]
    exact .tup (SqT.of h2) (.cons (.int _) (.cons (.int _) (.cons (.int _) .nil)))
  rw [h.1, ← List.range_eq_range'] at q
  exact q
theorem ints_dp {K : PySem.W.Frag} {H : Hp} : ∀ ns : List Int, DpAll K H (ns.map V.int) (ns.map PyData.int)
  | [] => .nil
  | n :: ns => .cons (.int n) (ints_dp ns)
theorem canLay_ints : ∀ ns : List Int, PyData.canLayAll0 (ns.map PyData.int) = true
  | [] => rfl
  | n :: ns => by
    rw [List.map_cons, PyData.canLayAll0, canLay_ints ns]
    rfl
theorem depth_ints : ∀ ns : List Int, PyData.depthAll (ns.map PyData.int) ≤ 2
  | [] => by simp [PyData.depthAll]
  | n :: ns => by
    have h := depth_ints ns
    rw [List.map_cons, PyData.depthAll]
    have : (PyData.int n).depth ≤ 2 := by simp [PyData.depth]
    omega
theorem shaped_ints (ns : List Int) : SeqAt.shaped (.list (ns.map PyData.int)) = true := by
  have h1 := canLay_ints ns
  have d1 := depth_ints ns
  unfold SeqAt.shaped
  rw [Bool.and_eq_true]
  refine ⟨by simp [PyData.canLay0, h1], decide_eq_true ?_⟩
  simp only [PyData.depth]
  omega
theorem canLay_rows (s e m : Int) (T : Nat) (z : Str) : ∀ l : List Nat, PyData.canLayAll0 (l.map (rowD s e m T z)) = true
  | [] => rfl
  | n :: ns => by
    rw [List.map_cons, PyData.canLayAll0, canLay_rows s e m T z ns]
    rfl
theorem depth_rows (s e m : Int) (T : Nat) (z : Str) : ∀ l : List Nat, PyData.depthAll (l.map (rowD s e m T z)) ≤ 2
  | [] => by simp [PyData.depthAll]
  | n :: ns => by
    have h := depth_rows s e m T z ns
    rw [List.map_cons, PyData.depthAll]
    have : (rowD s e m T z n).depth ≤ 2 := by simp [rowD, PyData.depth, PyData.depthAll]
    omega
theorem shaped_rows (s e m : Int) (T : Nat) (z : Str) (n : Nat) : SeqAt.shaped (.list (rowsD s e m T z n)) = true := by
  have h1 := canLay_rows s e m T z (List.range n)
  have d1 := depth_rows s e m T z (List.range n)
  unfold SeqAt.shaped rowsD
  rw [Bool.and_eq_true]
  refine ⟨by simp [PyData.canLay0, h1], decide_eq_true ?_⟩
  simp only [PyData.depth]
  omega
def spPeriods : Sp := fun vs H Q _ => ∃ (s e m : Int) (z : Str), vs = [.int s, .int e, .int m, .str z] ∧ 0 ≤ s ∧ s < e ∧ e ≤ s + 2000 ∧ 1 ≤ m ∧ m.natAbs < 2 ^ 64 ∧ z ∈ ([("none" : Str), "next", "before", "modified"] : List Str) ∧ ∀ (L : Addr) (H' : Hp) (T : Nat) (acc : List V), Same H H' → SchedOk s e m T → H' L = some (.lst acc) → RowsAt H' s e m T z T acc → Q (.ref L) H'
section
variable {σ : L2.St} {H : Hp} {ta tb : TE} {E : XK} {x y : Int}
theorem ei_addm (ha : EI ta σ H (.int x)) (hb : EI tb σ H (.int y)) (x0 : 0 ≤ x) (y0 : 0 ≤ y) : EI (tCall spAddM [] E (tCons ta (tCons tb tNil))) σ H (.int (lat x y)) := fun H1 e Q q =>
  ha H1 e _ fun H2 e2 => hb H2 (e.trans e2) _ fun H3 e3 => ⟨x, y, rfl, x0, y0, fun H4 e4 => q H4 ((e2.trans e3).trans e4)⟩
theorem ei_min (h : EI ta σ H (.int x)) (g : EI tb σ H (.int y)) : EI (tCB (fun xs H Q => ∃ i j, xs = [V.int i, V.int j] ∧ Q (.int (if j < i then j else i)) H) (tCons ta (tCons tb tNil))) σ H (.int (mn x y)) := fun H1 e Q q =>
  h H1 e _ fun H2 e2 => g H2 (e.trans e2) _ fun H3 e3 => ⟨x, y, rfl, q H3 (e2.trans e3)⟩
theorem ei_mod (h : EI ta σ H (.int x)) (g : EI tb σ H (.int y)) (hy : 0 < y) : EI (tOp (rI (fun _ b => 0 < b) fun i j => .int (i % j)) ta tb) σ H (.int (x % y)) := fun H1 e _ q => h H1 e _ fun H2 e2 => g H2 (e.trans e2) _ fun H3 e3 => ⟨x, y, rfl, rfl, hy, q H3 (e2.trans e3)⟩
theorem et_ge (ha : EI ta σ H (.int x)) (hb : EI tb σ H (.int y)) : ET (tTest (tOp (rI0 fun i j => .bl (decide (j ≤ i))) ta tb)) σ H (decide (y ≤ x)) := fun H1 e Q k =>
  ha H1 e _ fun H2 e2 => hb H2 (e.trans e2) _ fun H3 e3 => ⟨x, y, rfl, rfl, _, rfl, k H3 (e2.trans e3)⟩
theorem et_gt (ha : EI ta σ H (.int x)) (hb : EI tb σ H (.int y)) : ET (tTest (tOp (rI0 fun i j => .bl (decide (j < i))) ta tb)) σ H (decide (y < x)) := fun H1 e Q k =>
  ha H1 e _ fun H2 e2 => hb H2 (e.trans e2) _ fun H3 e3 => ⟨x, y, rfl, rfl, _, rfl, k H3 (e2.trans e3)⟩
end
end Cs
namespace Cs
open PySem PySem.Spec PyProof.Rows L2
theorem cut_tail (xs : List V) (h : 1 ≤ xs.length) : cutV xs (some 1) none = xs.drop 1 := by
  unfold cutV
  rw [show (some (1 : Int)) = some ((1 : Nat) : Int) from rfl, HT.sIx_none, HT.sIx_nat, Nat.min_eq_left h, List.take_of_length_le (by simp)]
theorem sched_v {s e m : Int} {T j : Nat} (h : j ≤ T) : ((sched s e m T).map V.int)[j]? = some (.int (sday s e m T j)) := by
  rw [List.getElem?_map, sched_at h]
  rfl
theorem RowsAt.fill {H : Hp} {D : Addr} {o : HO} {ys : List V} {s e m : Int} {T : Nat} {z : Str} {n : Nat} {acc : List V} (h : RowsAt H s e m T z n acc) (hD : H D = some (.lst ys)) : RowsAt (upd H D o) s e m T z n acc := ⟨h.1, fun j hj => by
  obtain ⟨t, h1, h2⟩ := h.2 j hj
  refine ⟨t, h1, ?_⟩
  rw [upd_ne (fun q => by rw [q, hD] at h2; cases h2)]
  exact h2⟩
end Cs
set_option maxHeartbeats 4000000
namespace Cs
open PySem PySem.Spec PyProof.Rows L2
theorem ix_lstK {X : Cx} {K : PySem.W.Frag} (h : X.K = K) : IxR X (rIxL K) := ix_lisK h
theorem kit_ll : kitB "list" "list" = some true := by decide +kernel
section
variable {K : PySem.W.Frag} {σ : L2.St} {H : Hp} {ta tb tc : TE} {E : XK} {x y : Int}
theorem et_isL {j : Nat} {p : Addr} {xs : List V} (h : σ[j]? = some (some (.ref p))) (hp : H p = some (.lst xs)) : ET (tNot (tB (tCB (rIsi K) (tCons (tVar j) (tCons (tC (.ty "list")) tNil))))) σ H false := fun H1 e Q k =>
  ⟨_, h, _, _, _, _, _, rfl, .ty _, .base (.lst (e _ _ hp)), kit_ty kit_ll, _, rfl, k H1 (Same.refl H1)⟩
theorem et_neInts {i j : Nat} {p q : Addr} {ns : List Int} (h : σ[i]? = some (some (.ref p))) (g : σ[j]? = some (some (.ref q))) (hp : H p = some (.lst (ns.map V.int))) (hq : H q = some (.lst (ns.map V.int))) : ET (tTest (tOp (rNeD K) (tVar i) (tVar j))) σ H false := fun H1 e Q k =>
  ⟨_, h, _, g, .list (ns.map PyData.int), .list (ns.map PyData.int), .lst (SqL.of (e _ _ hp)) (ints_dp ns), .lst (SqL.of (e _ _ hq)) (ints_dp ns), shaped_ints ns, shaped_ints ns, false, by
    rw [SeqAt.eqv_refl _ (SeqAt.canLay_of_shaped (shaped_ints ns))]
    rfl, k H1 (Same.refl H1)⟩
theorem ei_ixL {i j : Nat} {p : Addr} {xs : List V} {v : V} (h : σ[i]? = some (some (.ref p))) (hp : H p = some (.lst xs)) (g : EI tb σ H (.int (j : Int))) (hv : xs[j]? = some v) : EI (tOp (rIxL K) (tVar i) tb) σ H v := fun H1 e Q q =>
  ⟨_, h, g H1 e _ fun H2 e2 => ⟨_, _, _, _, rfl, rfl, SqL.of (e2 _ _ (e _ _ hp)), atI_nat hv, q H2 e2⟩⟩
theorem ei_ixM {i : Nat} {p : Addr} {xs : List V} {v : V} (h : σ[i]? = some (some (.ref p))) (hp : H p = some (.lst xs)) (hs : atI xs (-1) = some v) : EI (tOp (rIxL K) (tVar i) (tUn (rU fun i => .int (-i)) (tC (.int 1)))) σ H v := fun H1 e Q q =>
  ⟨_, h, _, rfl, _, _, _, _, rfl, rfl, SqL.of (e _ _ hp), hs, q H1 (Same.refl H1)⟩
theorem els_var {i : Nat} {p : Addr} {vs : List V} (h : σ[i]? = some (some (.ref p))) (hp : H p = some (.lst vs)) : ELs (tVar i) σ H vs := fun H1 e Q q => ⟨_, h, q p H1 (Same.refl H1) (e _ _ hp)⟩
theorem els_cat {i : Nat} {p : Addr} {vs : List V} {v : V} (h : σ[i]? = some (some (.ref p))) (hp : H p = some (.lst vs)) (g : EI tb σ H v) (hn : vs.length ≤ 100) : ELs (tOp rCat (tVar i) (tLst (tCons tb tNil))) σ H (vs ++ [v]) := fun H1 e Q q =>
  ⟨_, h, g H1 e _ fun H2 e2 => ⟨by show 1 ≤ sizeLine; decide, fun M nM => ⟨p, M, _, _, rfl, rfl, Same.new nM _ _ (e2 _ _ (e _ _ hp)), upd_same, Nat.le_trans (show vs.length + 1 ≤ 101 by omega) (by rw [sizeLine_eq]; decide), fun r nr => q r _ ((e2.trans (Same.new nM)).trans (Same.new nr)) upd_same⟩⟩⟩
theorem ei_sched {s e m : Int} (ha : EI ta σ H (.int s)) (hb : EI tb σ H (.int e)) (hc : EI tc σ H (.int m)) (s0 : 0 ≤ s) (se : s < e) (eb : e ≤ s + 2000) (m1 : 1 ≤ m) (mb : m.natAbs < 2 ^ 64) {D : L2.Ends} {i : Nat} {H1 : Hp} (e1 : Same H H1)
    (k : ∀ (L : Addr) (H2 : Hp) (T : Nat), Same H1 H2 → SchedOk s e m T → H2 L = some (.lst ((sched s e m T).map V.int)) → D.nx (σ.set i (some (.ref L))) H2) : tAsg (tCall spSched [] E (tCons ta (tCons tb (tCons tc tNil)))) (gName i) D σ H1 :=
  ha H1 e1 _ fun H2 e2 => hb H2 (e1.trans e2) _ fun H3 e3 => hc H3 ((e1.trans e2).trans e3) _ fun H4 e4 => ⟨s, e, m, rfl, s0, se, eb, m1, mb, fun L H5 T e5 ok hL => k L H5 T (((e2.trans e3).trans e4).trans e5) ok hL⟩
end
section
variable {K : PySem.W.Frag} {σ : L2.St} {H : Hp} {ta tb tc td : TE} {E : XK}
theorem et_nePer {s e m : Int} {T i : Nat} {z : Str} {D : Addr} {acc : List V} (ha : EI ta σ H (.int s)) (hb : EI tb σ H (.int e)) (hc : EI tc σ H (.int m)) (hd : EI td σ H (.str z)) (s0 : 0 ≤ s) (se : s < e) (eb : e ≤ s + 2000) (m1 : 1 ≤ m) (mb : m.natAbs < 2 ^ 64) (hz : z ∈ ([("none" : Str), "next", "before", "modified"] : List Str)) (ok : SchedOk s e m T) (h : σ[i]? = some (some (.ref D))) (hD : H D = some (.lst acc)) (hR : RowsAt H s e m T z T acc) :
    ET (tTest (tOp (rNeD K) (tCall spPeriods [] E (tCons ta (tCons tb (tCons tc (tCons td tNil))))) (tVar i))) σ H false := fun H1 e1 Q k =>
  ha H1 e1 _ fun H2 e2 => hb H2 (e1.trans e2) _ fun H3 e3 => hc H3 ((e1.trans e2).trans e3) _ fun H4 e4 => hd H4 (((e1.trans e2).trans e3).trans e4) _ fun H5 e5 => ⟨s, e, m, z, rfl, s0, se, eb, m1, mb, hz, fun L H6 T' acc' e6 ok' hL' hR' => by
    obtain rfl := ok.unique ok'
    have e7 := ((((e1.trans e2).trans e3).trans e4).trans e5).trans e6
    exact ⟨_, h, .list (rowsD s e m T z T), .list (rowsD s e m T z T), .lst (SqL.of hL') hR'.dp, .lst (SqL.of (e7 _ _ hD)) (hR.same e7).dp, shaped_rows .., shaped_rows .., false, by
      rw [SeqAt.eqv_refl _ (SeqAt.canLay_of_shaped (shaped_rows ..))]
      rfl, k H6 ((((e2.trans e3).trans e4).trans e5).trans e6)⟩⟩
end
theorem St5.ne {K : PySem.W.Frag} {H : Hp} {d L : Addr} {ns : List Int} (h : St5 K H d) (hL : H L = some (.lst (ns.map V.int))) : L ≠ d := fun q => by
  obtain ⟨l, ms, b, c, e, g, h1, _⟩ := h
  rw [q, h1] at hL
  have z : ([V.ref l, V.int b, V.int c, V.int e, V.int g] : List V) = ns.map V.int := by injection (Option.some.inj hL)
  cases ns with
  | nil => cases z
  | cons n ns => cases z
theorem sched_last (s e m : Int) (T : Nat) : atI ((sched s e m T).map V.int) (-1) = some (.int e) := by
  rw [sched, List.map_append]
  exact atI_last _ _
end Cs
set_option maxHeartbeats 4000000
namespace Cs
open PySem PySem.Spec PyProof.Rows L2
/-! ### parts of a year -/
noncomputable def numP (c : Str) (d : Int) : Rat :=
  if c = "fixed" then Rat.divInt d 1 else if c = "thirty" then Rat.divInt (30 * mon d + 30 + mn (num d) 30) 1 else Rat.divInt (mon d + 1) 1 + Rat.divInt (num d - 1) (ml (mon d))
def dvs (c : Str) : Int := if c = "fixed" then 365 else if c = "thirty" then 360 else 12
theorem dvs_pos (c : Str) : 0 < dvs c := by
  unfold dvs
  by_cases h : c = "fixed"
  · rw [if_pos h]; decide
  · rw [if_neg h]
    by_cases h : c = "thirty"
    · rw [if_pos h]; decide
    · rw [if_neg h]; decide
theorem dvs_ne (c : Str) : ((dvs c : Int) : Rat) ≠ 0 := fun h => by
  have h2 := dvs_pos c
  have : dvs c = 0 := Rat.intCast_inj.mp h
  omega
noncomputable def lnumP (c : Str) (d : Int) : Rat :=
  if c = "fixed" then Rat.divInt d 365 else if c = "thirty" then Rat.divInt (30 * mon d + 30 + mn (num d) 30) 360 else Rat.divInt (mon d + 1) 12 + Rat.divInt (num d - 1) (12 * ml (mon d))
theorem lnum_is (c : Str) (d : Int) : lnumP c d = numP c d / (dvs c : Int) := by
  unfold lnumP numP dvs
  by_cases h : c = "fixed"
  · rw [if_pos h, if_pos h, if_pos h, Rat.divInt_eq_div, Rat.divInt_eq_div]
    grind
  · rw [if_neg h, if_neg h, if_neg h]
    by_cases h : c = "thirty"
    · rw [if_pos h, if_pos h, if_pos h, Rat.divInt_eq_div, Rat.divInt_eq_div]
      grind
    · rw [if_neg h, if_neg h, if_neg h, Rat.divInt_eq_div, Rat.divInt_eq_div, Rat.divInt_eq_div, Rat.divInt_eq_div]
      have hm := ml_bd (mon d)
      have : ((ml (mon d) : Int) : Rat) ≠ 0 := fun q => by
        have : ml (mon d) = 0 := Rat.intCast_inj.mp q
        omega
      have e : ((12 * ml (mon d) : Int) : Rat) = 12 * ((ml (mon d) : Int) : Rat) := by
        rw [Rat.intCast_mul]
        rfl
      rw [e]
      grind
noncomputable def prt (c : Str) (s e : Int) : Rat := (numP c e - numP c s) / (dvs c : Int)
theorem prt_law (c : Str) (s e : Int) : lnumP c e - lnumP c s = prt c s e := by
  rw [lnum_is, lnum_is]
  unfold prt
  grind
theorem prt_add (c : Str) (s e u : Int) : prt c s e + prt c e u = prt c s u := by
  unfold prt
  grind
theorem prt_self (c : Str) (s : Int) : prt c s s = 0 := by
  unfold prt
  grind
theorem rat_div_mono {a b c : Rat} (h : a ≤ b) (g : 0 < c) : a / c ≤ b / c := by
  rw [Rat.div_def, Rat.div_def]
  exact Rat.mul_le_mul_of_nonneg_right h (Rat.le_of_lt (Rat.inv_pos.mpr g))
theorem one_div (a : Int) : Rat.divInt a 1 = (a : Rat) := by
  rw [Rat.divInt_eq_div]
  grind
theorem rat_pos {a : Int} (h : 0 < a) : (0 : Rat) < (a : Rat) := Rat.intCast_pos.mpr h
theorem numP_mono (c : Str) {s e : Int} (h : s ≤ e) : numP c s ≤ numP c e := by
  unfold numP
  by_cases h1 : c = "fixed"
  · rw [if_pos h1, if_pos h1, one_div, one_div]
    exact Rat.intCast_le_intCast.mpr h
  · rw [if_neg h1, if_neg h1]
    have hm := mon_mono h
    have d1 := day_eq s
    have d2 := day_eq e
    have b1 := num_bd s
    have b2 := num_bd e
    have l1 := ml_bd (mon s)
    have l2 := ml_bd (mon e)
    by_cases h2 : c = "thirty"
    · rw [if_pos h2, if_pos h2, one_div, one_div]
      refine Rat.intCast_le_intCast.mpr ?_
      have k1 := mn_le (num s) 30
      rcases Int.lt_or_eq_of_le hm with z | z
      · rcases mn_or (num e) 30 with q | q <;> rw [q] <;> omega
      · rw [z] at d1 ⊢
        have := mn_mono 30 (show num s ≤ num e by omega)
        omega
    · rw [if_neg h2, if_neg h2, one_div, one_div]
      rcases Int.lt_or_eq_of_le hm with z | z
      · have e1 : Rat.divInt (num s - 1) (ml (mon s)) ≤ 1 := by
          rw [Rat.divInt_eq_div]
          have g := rat_div_mono (a := ((num s - 1 : Int) : Rat)) (b := ((ml (mon s) : Int) : Rat)) (Rat.intCast_le_intCast.mpr (by omega)) (rat_pos (show 0 < ml (mon s) by omega))
          have : ((ml (mon s) : Int) : Rat) ≠ 0 := fun q => by
            have : ml (mon s) = 0 := Rat.intCast_inj.mp q
            omega
          grind
        have e2 : 0 ≤ Rat.divInt (num e - 1) (ml (mon e)) := by
          rw [Rat.divInt_eq_div]
          have g := rat_div_mono (a := ((0 : Int) : Rat)) (b := ((num e - 1 : Int) : Rat)) (Rat.intCast_le_intCast.mpr (by omega)) (rat_pos (show 0 < ml (mon e) by omega))
          grind
        have e3 : ((mon s + 1 : Int) : Rat) + 1 ≤ ((mon e + 1 : Int) : Rat) := by
          have : ((mon s + 1 + 1 : Int) : Rat) ≤ ((mon e + 1 : Int) : Rat) := Rat.intCast_le_intCast.mpr (by omega)
          grind
        grind
      · rw [z] at d1 ⊢
        have g := rat_div_mono (a := ((num s - 1 : Int) : Rat)) (b := ((num e - 1 : Int) : Rat)) (Rat.intCast_le_intCast.mpr (by omega)) (rat_pos (show 0 < ml (mon e) by omega))
        rw [← Rat.divInt_eq_div, ← Rat.divInt_eq_div] at g
        grind
theorem prt_nn (c : Str) {s e : Int} (h : s ≤ e) : 0 ≤ (prt c s e).num := by
  refine Rat.num_nonneg.mpr ?_
  have h1 := numP_mono c h
  have g := rat_div_mono (a := 0) (b := numP c e - numP c s) (by grind) (rat_pos (dvs_pos c))
  unfold prt
  grind
theorem prt_plain {s m : Int} (h : num s = 1) : prt "plain" s (lat s m) = Rat.divInt m 12 := by
  have hn : num (lat s m) = 1 := by
    have := ml_bd (mon s + m)
    rw [num_lat, h]
    unfold mn
    rw [if_neg (by omega)]
  have e1 : numP "plain" s = ((mon s + 1 : Int) : Rat) := by
    unfold numP
    rw [if_neg (by decide +kernel), if_neg (by decide +kernel), h, one_div]
    simp
    grind
  have e2 : numP "plain" (lat s m) = ((mon s + m + 1 : Int) : Rat) := by
    unfold numP
    rw [if_neg (by decide +kernel), if_neg (by decide +kernel), hn, one_div, mon_lat]
    simp
    grind
  have e3 : dvs "plain" = 12 := by decide +kernel
  unfold prt
  rw [e1, e2, e3, Rat.divInt_eq_div]
  grind
end Cs
set_option maxHeartbeats 4000000
namespace Cs
open PySem PySem.Spec PyProof.Rows L2
/-! ### not in a written dict -/
def rNotInKd (K : PySem.W.Frag) (w : World) : R2 := fun x y H Q => ∃ (p : Addr) (z : Str), x = .str z ∧ y = .ref p ∧ (p == sysModules) = false ∧ (((∃ v, KDct K w p z v) ∧ Q (.bl false) H) ∨ ((∃ es n, K.lookup p = some ⟨.type "dict", none, .dict es n, #[]⟩ ∧ PySem.W.KeysLit w.params es.toList ∧ PySem.W.nsIn K p z = some none) ∧ Q (.bl true) H))
theorem op_notInKd {X : Cx} : OpR X (compareOp .NotIn) (rNotInKd X.K X.w) := by
  intro pins s σ H x y v u Q I rx ry h
  obtain ⟨p, z, rfl, rfl, hs, h⟩ := h
  obtain rfl : u = Value.ref p := ry
  obtain ⟨t, rfl⟩ := rx
  rcases h with ⟨⟨v, es, n, u0, hl, hk, e, ru⟩, q⟩ | ⟨⟨es, n, hl, hk, e⟩, q⟩
  · have hm := PySem.W.mapOf_K (prog := X.prog) (w := X.w) I.kIn hl hk
    refine wpAny_notIn_of (strKind_is X.prog X.w z t) hs hm ?_
    rw [PySem.W.find_K hl e]
    exact ⟨.bl false, H, I.tok _, rfl, q⟩
  · have hm := PySem.W.mapOf_K (prog := X.prog) (w := X.w) I.kIn hl hk
    refine wpAny_notIn_of (strKind_is X.prog X.w z t) hs hm ?_
    rw [PySem.W.find_K hl e]
    exact ⟨.bl true, H, I.tok _, rfl, q⟩
/-! ### sizes -/
def counts : List Str := ["fixed", "thirty", "plain"]
theorem mon_sz {d : Int} (h0 : 0 ≤ d) (h : d < 2 ^ 40) : 0 ≤ mon d ∧ mon d < 2 ^ 40 := by
  obtain ⟨y, i, n, hd⟩ := dateR_ex d
  have hy := hd.y0 h0
  have hi := hd.hi
  have hr := hd.rest
  have he := hd.e
  rw [hd.mon]
  omega
theorem sz_int {n : Nat} {a : Int} (h : a.natAbs < 2 ^ n) (hn : 1 ≤ n) : Sz n (Rat.divInt a 1) := sz_div (by decide) h (Nat.lt_of_lt_of_le (by decide : 1 < 2 ^ 1) (Nat.pow_le_pow_right (by decide) hn))
theorem sz_num {c : Str} {d : Int} (h0 : 0 ≤ d) (h : d < 2 ^ 40) : Sz 100 (numP c d) := by
  have hm := mon_sz h0 h
  have hb := num_bd d
  have hl := ml_bd (mon d)
  have hk := mn_le (num d) 30
  have hk2 := mn_or (num d) 30
  unfold numP
  by_cases h1 : c = "fixed"
  · rw [if_pos h1]
    exact (sz_int (n := 41) (by omega) (by decide)).mono (by decide)
  · rw [if_neg h1]
    by_cases h2 : c = "thirty"
    · rw [if_pos h2]
      refine (sz_int (n := 50) ?_ (by decide)).mono (by decide)
      rcases hk2 with q | q <;> rw [q] <;> omega
    · rw [if_neg h2]
      exact (sz_add2 (n := 42) (m := 6) (sz_int (by omega) (by decide)) (sz_div (by omega) (by omega) (by omega))).mono (by decide)
theorem sz_lnum {c : Str} {d : Int} (h0 : 0 ≤ d) (h : d < 2 ^ 40) : Sz 100 (lnumP c d) := by
  have hm := mon_sz h0 h
  have hb := num_bd d
  have hl := ml_bd (mon d)
  have hk := mn_le (num d) 30
  have hk2 := mn_or (num d) 30
  unfold lnumP
  by_cases h1 : c = "fixed"
  · rw [if_pos h1]
    exact (sz_div (n := 41) (by decide) (by omega) (by decide)).mono (by decide)
  · rw [if_neg h1]
    by_cases h2 : c = "thirty"
    · rw [if_pos h2]
      refine (sz_div (n := 50) (by decide) ?_ (by decide)).mono (by decide)
      rcases hk2 with q | q <;> rw [q] <;> omega
    · rw [if_neg h2]
      exact (sz_add2 (n := 42) (m := 10) (sz_div (by decide) (by omega) (by decide)) (sz_div (by omega) (by omega) (by omega))).mono (by decide)
theorem dvs_sz (c : Str) : (dvs c).natAbs < 2 ^ 10 := by
  unfold dvs
  by_cases h : c = "fixed"
  · rw [if_pos h]; decide
  · rw [if_neg h]
    by_cases h : c = "thirty"
    · rw [if_pos h]; decide
    · rw [if_neg h]; decide
theorem sz_prt {c : Str} {s e : Int} (s0 : 0 ≤ s) (s1 : s < 2 ^ 40) (e0 : 0 ≤ e) (e1 : e < 2 ^ 40) : Sz 250 (prt c s e) := by
  rw [← prt_law]
  exact (sz_sub2 (sz_lnum e0 e1) (sz_lnum s0 s1)).mono (by decide)
/-! ### promises -/
def spLow : Sp := fun vs H Q _ => ∃ p q : Int, vs = [.int p, .int q] ∧ 0 < q ∧ p.natAbs < 2 ^ 2400 ∧ q.natAbs < 2 ^ 2400 ∧ ∀ t H', Same H H' → H t = none → H' t = some (nd (Rat.divInt p q)) → Q (.ref t) H'
def spNum (f : Str → Int → Rat) : Sp := fun vs H Q _ => ∃ (c : Str) (d : Int), vs = [.str c, .int d] ∧ c ∈ counts ∧ 0 ≤ d ∧ d < 2 ^ 40 ∧ ∀ t H', Same H H' → H' t = some (nd (f c d)) → Q (.ref t) H'
def spPart : Sp := fun vs H Q _ => ∃ (c : Str) (s e : Int), vs = [.str c, .int s, .int e] ∧ c ∈ counts ∧ 0 ≤ s ∧ s ≤ e ∧ e < 2 ^ 40 ∧ ∀ t H', Same H H' → H' t = some (nd (prt c s e)) → Q (.ref t) H'
section
variable {K : PySem.W.Frag} {σ : L2.St} {H : Hp} {ta tb tc : TE} {E : XK} {x y : Int} {c : Str}
theorem eq_low {p q : Int} (ha : EI ta σ H (.int p)) (hb : EI tb σ H (.int q)) (q0 : 0 < q) (hp : p.natAbs < 2 ^ 2400) (hq : q.natAbs < 2 ^ 2400) : EQ (tCall spLow [] E (tCons ta (tCons tb tNil))) σ H (Rat.divInt p q) := fun H1 e Q k =>
  ha H1 e _ fun H2 e2 => hb H2 (e.trans e2) _ fun H3 e3 => ⟨p, q, rfl, q0, hp, hq, fun t H4 e4 _ h4 => k t H4 ((e2.trans e3).trans e4) h4⟩
theorem eq_num {f : Str → Int → Rat} (ha : EI ta σ H (.str c)) (hb : EI tb σ H (.int x)) (hc : c ∈ counts) (x0 : 0 ≤ x) (x1 : x < 2 ^ 40) : EQ (tCall (spNum f) [] E (tCons ta (tCons tb tNil))) σ H (f c x) := fun H1 e Q k =>
  ha H1 e _ fun H2 e2 => hb H2 (e.trans e2) _ fun H3 e3 => ⟨c, x, rfl, hc, x0, x1, fun t H4 e4 h4 => k t H4 ((e2.trans e3).trans e4) h4⟩
theorem eq_part (ha : EI ta σ H (.str c)) (hb : EI tb σ H (.int x)) (hd : EI tc σ H (.int y)) (hc : c ∈ counts) (x0 : 0 ≤ x) (xy : x ≤ y) (y1 : y < 2 ^ 40) : EQ (tCall spPart [] E (tCons ta (tCons tb (tCons tc tNil)))) σ H (prt c x y) := fun H1 e Q k =>
  ha H1 e _ fun H2 e2 => hb H2 (e.trans e2) _ fun H3 e3 => hd H3 ((e.trans e2).trans e3) _ fun H4 e4 => ⟨c, x, y, rfl, hc, x0, xy, y1, fun t H5 e5 h5 => k t H5 (((e2.trans e3).trans e4).trans e5) h5⟩
theorem st_setQ {i : Nat} {r : Rat} {D : L2.Ends} {H1 : Hp} (h : EQ ta σ H r) (e : Same H H1) (k : ∀ p H2, Same H H2 → H2 p = some (nd r) → D.nx (σ.set i (some (.ref p))) H2) : tAsg ta (gName i) D σ H1 := h H1 e _ fun p H2 e2 hp => k p H2 (e.trans e2) hp
end
end Cs
set_option maxHeartbeats 4000000
namespace Cs
open PySem PySem.Spec PyProof.Rows L2
noncomputable def shr (c : Str) (s e d : Int) : Rat := prt c s d / prt c s e
theorem num_ne0 {r : Rat} (h : r ≠ 0) : r.num ≠ 0 := fun q => h (Rat.num_eq_zero.mp q)
theorem prt_mono (c : Str) (s : Int) {d e : Int} (h : d ≤ e) : prt c s d ≤ prt c s e := by
  have h1 := numP_mono c h
  have g := rat_div_mono (a := numP c d - numP c s) (b := numP c e - numP c s) (by grind) (rat_pos (dvs_pos c))
  exact g
theorem prt_ge (c : Str) {s e : Int} (h : s ≤ e) : 0 ≤ prt c s e := Rat.num_nonneg.mp (prt_nn c h)
theorem prt_gt (c : Str) {s e : Int} (h : s ≤ e) (n : prt c s e ≠ 0) : 0 < prt c s e := by
  have := prt_ge c h
  grind
theorem shr_mono (c : Str) {s e d d' : Int} (se : s ≤ e) (n : prt c s e ≠ 0) (h : d ≤ d') : shr c s e d ≤ shr c s e d' := rat_div_mono (prt_mono c s h) (prt_gt c se n)
theorem shr_start (c : Str) (s e : Int) : shr c s e s = 0 := by
  unfold shr
  rw [prt_self]
  grind
theorem shr_end (c : Str) {s e : Int} (n : prt c s e ≠ 0) : shr c s e e = 1 := by
  unfold shr
  grind
theorem not_less {r s : Rat} (h : s ≤ r) : ¬ r.num * (s.den : Int) < s.num * (r.den : Int) := Int.not_lt.mpr ((Rat.le_iff _ _).mp h)
def spShare : Sp := fun vs H Q _ => ∃ (c : Str) (s e d : Int), vs = [.str c, .int s, .int e, .int d] ∧ c ∈ counts ∧ 0 ≤ s ∧ s ≤ d ∧ d ≤ e ∧ e < 2 ^ 40 ∧ prt c s e ≠ 0 ∧ ∀ t H', Same H H' → H' t = some (nd (shr c s e d)) → Q (.ref t) H'
def spLess : Sp := fun vs H Q _ => ∃ (a b : Addr) (r s : Rat), vs = [.ref a, .ref b] ∧ H a = some (nd r) ∧ H b = some (nd s) ∧ Sz 1000 r ∧ Sz 1000 s ∧ s ≤ r ∧ Q (.bl false) H
section
variable {K : PySem.W.Frag} {σ : L2.St} {H : Hp} {ta tb tc td : TE} {E : XK} {x y z : Int} {c : Str} {r s : Rat}
theorem eq_share (ha : EI ta σ H (.str c)) (hb : EI tb σ H (.int x)) (hd : EI tc σ H (.int y)) (he : EI td σ H (.int z)) (hc : c ∈ counts) (x0 : 0 ≤ x) (xz : x ≤ z) (zy : z ≤ y) (y1 : y < 2 ^ 40) (n : prt c x y ≠ 0) : EQ (tCall spShare [] E (tCons ta (tCons tb (tCons tc (tCons td tNil))))) σ H (shr c x y z) := fun H1 e Q k =>
  ha H1 e _ fun H2 e2 => hb H2 (e.trans e2) _ fun H3 e3 => hd H3 ((e.trans e2).trans e3) _ fun H4 e4 => he H4 (((e.trans e2).trans e3).trans e4) _ fun H5 e5 => ⟨c, x, y, z, rfl, hc, x0, xz, zy, y1, n, fun t H6 e6 h6 => k t H6 ((((e2.trans e3).trans e4).trans e5).trans e6) h6⟩
theorem ei_less (ha : EQ ta σ H r) (hb : EQ tb σ H s) (zr : Sz 1000 r) (zs : Sz 1000 s) (h : s ≤ r) : EI (tCall spLess [] E (tCons ta (tCons tb tNil))) σ H (.bl false) := fun H1 e Q q =>
  ha H1 e _ fun p H2 e2 hp => hb H2 (e.trans e2) _ fun p' H3 e3 hp' => ⟨p, p', r, s, rfl, e3 _ _ hp, hp', zr, zs, h, q H3 (e2.trans e3)⟩
theorem eqv_pair (r s : Rat) : PyData.eqv (.tuple [.int r.num, .int r.den]) (.tuple [.int s.num, .int s.den]) = decide (r = s) := by
  by_cases h : r = s
  · subst h
    rw [decide_eq_true rfl]
    simp [PyData.eqv, PyData.eqvAll]
  · rw [decide_eq_false h]
    simp [PyData.eqv, PyData.eqvAll]
    intro q q2
    exact h (Rat.ext q (by omega))
theorem et_eqQ (ha : EQ ta σ H r) (hb : EQ tb σ H s) : ET (tTest (tOp (rEqD K) ta tb)) σ H (decide (r = s)) := fun H1 e Q k =>
  ha H1 e _ fun p H2 e2 hp => hb H2 (e.trans e2) _ fun p' H3 e3 hp' =>
    ⟨.tuple [.int r.num, .int r.den], .tuple [.int s.num, .int s.den], .tup (SqT.of (e3 _ _ hp)) (.cons (.int _) (.cons (.int _) .nil)), .tup (SqT.of hp') (.cons (.int _) (.cons (.int _) .nil)), by rfl, by rfl, _, rfl, by
      rw [eqv_pair]
      exact k H3 (e2.trans e3)⟩
/-- .. against the written pair (0, 1) -/
theorem et_eqZ {zZ : Addr} (ha : EQ ta σ H r) (hZ : ∀ H, SqT K H zZ [.int 0, .int 1]) : ET (tTest (tOp (rEqD K) ta (tC (.ref zZ)))) σ H (decide (r = 0)) := fun H1 e Q k =>
  ha H1 e _ fun p H2 e2 hp =>
    ⟨.tuple [.int r.num, .int r.den], .tuple [.int (0 : Rat).num, .int (0 : Rat).den], .tup (SqT.of hp) (.cons (.int _) (.cons (.int _) .nil)), .tup (hZ H2) (.cons (.int _) (.cons (.int _) .nil)), by rfl, by rfl, _, rfl, by
      rw [eqv_pair]
      exact k H2 e2⟩
end
end Cs
namespace Cs
open PySem PySem.Spec PyProof.Rows L2
theorem St5.fill {K : PySem.W.Frag} {H : Hp} {d A : Addr} {ms : List Int} (h : St5 K H d) (hA : A ≠ d) : St5 K (upd H A (.lst (ms.map V.int))) d := by
  obtain ⟨l, ns, b, c, e, g, h1, h2, h3, h4⟩ := h
  by_cases q : l = A
  · exact ⟨l, ms, b, c, e, g, by rw [upd_ne (Ne.symm hA)]; exact h1, by rw [q]; exact SqL.of upd_same, h3, h4⟩
  · refine ⟨l, ns, b, c, e, g, by rw [upd_ne (Ne.symm hA)]; exact h1, ?_, h3, h4⟩
    rcases h2 with (h | ⟨o', h⟩) | h
    · exact .inl (.inl (by rw [upd_ne q]; exact h))
    · exact .inl (.inr ⟨o', by rw [upd_ne q]; exact h⟩)
    · exact .inr h
theorem els4 {σ : L2.St} {H : Hp} {ta tb tc td : TE} {x y z u : V} (h : EI ta σ H x) (g : EI tb σ H y) (k : EI tc σ H z) (l : EI td σ H u) : ELs (tLst (tCons ta (tCons tb (tCons tc (tCons td tNil))))) σ H [x, y, z, u] := fun H1 e Q q => h H1 e _ fun H2 e2 => g H2 (e.trans e2) _ fun H3 e3 => k H3 ((e.trans e2).trans e3) _ fun H4 e4 => l H4 (((e.trans e2).trans e3).trans e4) _ fun H5 e5 => ⟨by show 4 ≤ sizeLine; decide, fun p np => q p _ ((((e2.trans e3).trans e4).trans e5).trans (Same.new np)) upd_same⟩
theorem sz_shr {c : Str} {s e d : Int} (s0 : 0 ≤ s) (sd : s ≤ d) (de : d ≤ e) (e1 : e < 2 ^ 40) (n : prt c s e ≠ 0) : Sz 1000 (shr c s e d) := (sz_quo2 (sz_prt (c := c) s0 (by omega) (show 0 ≤ d by omega) (by omega)) (sz_prt (c := c) s0 (by omega) (show 0 ≤ e by omega) e1) (num_ne0 n)).mono (by decide)
theorem pw_at {ns : List Int} (h : ns.Pairwise (· ≤ ·)) {i j : Nat} {x y : Int} (hij : i < j) (hx : ns[i]? = some x) (hy : ns[j]? = some y) : x ≤ y := by
  obtain ⟨h1, rfl⟩ := List.getElem?_eq_some_iff.mp hx
  obtain ⟨h2, rfl⟩ := List.getElem?_eq_some_iff.mp hy
  exact List.pairwise_iff_getElem.mp h i j h1 h2 hij
theorem int_at {ns : List Int} {i : Nat} {x : V} (h : (ns.map V.int)[i]? = some x) : ∃ n, x = .int n ∧ ns[i]? = some n := by
  rw [List.getElem?_map] at h
  cases e : ns[i]? with
  | none => rw [e] at h; cases h
  | some n => rw [e] at h; exact ⟨n, (Option.some.inj h).symm, rfl⟩
theorem all_true {bs : List Bool} (h : ∀ b ∈ bs, b = true) : bs.all id = true := List.all_eq_true.mpr fun b hb => h b hb
end Cs
set_option maxHeartbeats 4000000
namespace Cs
open PySem PySem.Spec PyProof.Rows L2
/-! ### an exception that leaves a comprehension -/
/-- in a block's context Y: a callee has let an exception out -/
def Air (Y : Cx) (E : XK) : Value → Shared → Prop := fun u s' => ∃ (pins : List (Addr × Obj)) (σ : L2.St) (H : Hp) (s : Shared), Inv Y pins σ H s ∧ L2.CX Y.prog Y.w Y.stack H s E u s'
theorem air_passes {Y : Cx} {E : XK} : Passes (L2.CX Y.prog Y.w) (Y.wish (Air Y E)) E := fun pins σ H s _ _ I c => ⟨pins, σ, H, s, I.unwish, c⟩
/-- it flies: the state of flight that a callee leaves is the one that the air tells of -/
theorem flies {B B' : Heap} {l : List Env} {a L : Addr} {Z Z' : Obj → Prop} {h : Heap} (t : HandSPX.TracedZ h B' a Z' .none) (k : Sky B l a Z L h) : HandSPX.FlyingZ B l a Z h := by
  obtain ⟨o1, v1, T1, oT1, ts1, g1, _, d1, n1, _, _, gT1, dT1, f1⟩ := t
  rcases k with ⟨_, _, _, o2, v2, g2, _, d2, n2⟩ | k | ⟨_, _, _, o2, v2, T2, oT2, ts2, g2, _, d2, n2, _, _, gT2, dT2, f2⟩
  · cases g1.symm.trans g2
    have e : v1 = v2 := by injection (d1.symm.trans d2)
    rw [e, n2] at n1
    cases n1
  · exact k
  · cases g1.symm.trans g2
    have e : v1 = v2 := by injection (d1.symm.trans d2)
    rw [e, n2] at n1
    cases n1
    cases gT1.symm.trans gT2
    have e2 : ts1 = ts2 := by injection (dT1.symm.trans dT2)
    rw [e2, f2] at f1
    cases f1
/-- without the object at C -/
theorem hid {h : Heap} {C b : Addr} {o : Obj} (q : (PySem.W.hideAll h [C]).get? b = some o) : b ≠ C ∧ h.get? b = some o := by
  refine ⟨fun e => ?_, PySem.W.of_hideAll _ q⟩
  rw [e, PySem.W.hideAll_none [C] (List.mem_singleton.mpr rfl)] at q
  cases q
theorem hid_of {h : Heap} {C b : Addr} {o : Obj} (n : b ≠ C) (q : h.get? b = some o) : (PySem.W.hideAll h [C]).get? b = some o := PySem.W.hideAll_get _ q fun m => n (List.mem_singleton.mp m)
section
variable {X : Cx} {E : XK}
theorem air_fails {pins : List (Addr × Obj)} {σ : L2.St} {H3 : Hp} {s3 : Shared} {scope : Scope} {cl : List (Str × Addr)} {fp : List Addr} {u : Value} {s' : Shared}
    (tk : Takes X fun cls d _ H => E cls d H) (hst : X.stack = X.env :: X.outer) (hfr : X.env.frame = some X.env.locals) (I3 : Inv X pins σ H3 s3) (f3 : ∀ b ∈ fp, FpOk X pins H3 b)
    (w : Air (X.blk s3 H3 scope (compEnvC scope cl s3.heap.objs.size X.env) fp) E u s') :
    notedBy (model X.prog X.w) X.A (compEnvC scope cl s3.heap.objs.size X.env) (CompFails (model X.prog X.w) X.A X.xe (compEnvC scope cl s3.heap.objs.size X.env)) u s' := by
  obtain ⟨pinsB, σB, HB, s0, IB, c⟩ := w
  have x := XE.of_call (W := fun cls d _ H => E cls d H) IB (fun _ _ _ h => h) c
  obtain ⟨a, B', H', cls', d', rfl, fl', _⟩ := c
  obtain ⟨a2, B, sI, pI, σI, HI, cls, d, ea, I, nb, up, sky, na, os, ag, wE⟩ := x
  cases ea
  have fl := flies fl'.2.2.2 sky
  have hA : X.A.frames = some (X.env :: X.outer) := by rw [I3.ok.frames, hst]
  show wpAny _ X.A (noteFrame (.ref a) (compEnvC scope cl s3.heap.objs.size X.env)) _ _ s'
  rw [noteFrame_env (cenv := compEnvC scope cl s3.heap.objs.size X.env) (env := X.env) (.ref a) rfl]
  have fl : HandSPX.FlyingZ B (X.env :: X.outer) a (Zc cls d) s'.heap := hst ▸ fl
  refine HandSPX.looks_onZ Zc.steady hA hfr fl fun h1 held up1 => ?_
  obtain ⟨m, nsC, _⟩ := I.loc
  have nsC : sI.heap.Ns s3.heap.objs.size m := nsC
  have nsC1 : h1.Ns s3.heap.objs.size m := nsC.upToSlots (up.trans up1)
  refine ⟨m, nsC1, fun h2 m2 nsC2 sb => ?_⟩
  obtain ⟨g1, g2, g3, oe, vs, T, oT, ts, he, hz, hd, hv, hT, hTa, heT, hdT, hts⟩ := held
  have nC : ∀ {b : Addr} {o : Obj} {v : Array Value}, h1.get? b = some o → o.data = .fields v → b ≠ s3.heap.objs.size := fun {b o v} q q2 e => by
    obtain ⟨oC, es, ep, hoC, dC, _⟩ := nsC1
    rw [e, hoC] at q
    cases q
    rw [dC] at q2
    cases q2
  have at2 : ∀ {b : Addr} {o : Obj}, b ≠ s3.heap.objs.size → h1.get? b = some o → h2.get? b = some o := fun n q => (sb.2 _ n).trans q
  have held2 : HandSPX.HeldZ (PySem.W.hideAll B [s3.heap.objs.size]) X.stack a (Zc cls d) X.env.locals h2 := by
    refine ⟨fun b o q => at2 (hid q).1 (g1 b o (hid q).2), ?_, ?_, oe, vs, T, oT, ts, at2 (nC he hd) he, hz, hd, hv, ?_, hTa, at2 (nC heT hdT) heT, hdT, hts⟩
    · cases q : (PySem.W.hideAll B [s3.heap.objs.size]).get? a with
      | none => rfl
      | some o => rw [(hid q).2] at g2; cases g2
    · have f2 := Heap.FunFrames.sameBut sb nsC2 g3
      rw [hst]
      refine funFrames_none f2 fun L hL => ?_
      cases q : (PySem.W.hideAll B [s3.heap.objs.size]).get? L with
      | none => rfl
      | some o =>
        have z := (f2.mem hL).1
        rw [(hid q).2] at z
        cases z
    · cases q : (PySem.W.hideAll B [s3.heap.objs.size]).get? T with
      | none => rfl
      | some o => rw [(hid q).2] at hT; cases hT
  have held3 := held2
  obtain ⟨_, _, _, oe2, vs2, T2, oT2, ts2, he2, _, hd2, hv2, _⟩ := held3
  unfold PySem.passOn
  refine wpAny_bind (wpAny_field he2 hd2 hv2 ?_)
  rw [if_neg (show ¬ ((Value.ref T2 == Value.none) = true) from by simp)]
  show wpAny _ X.A (setFlight (.ref a) X.env.frame >>= _) _ _ _
  rw [hfr]
  refine wpAny_bind (HandSPX.setFlight_onZ held2 fun h4 held4 up4 => wpAny_throw ?_)
  -- the def's own state, without the block's names
  have IX : Inv X pins σ HI sI := I3.call' (ch := fp) I.os I.base I.hok I.bare fun b hb => ⟨(f3 b hb).2.2.2.1, (f3 b hb).2.1, (f3 b hb).2.2.2.2.1, (f3 b hb).2.2.2.2.2⟩
  have hC : HI s3.heap.objs.size = none := I.free
  obtain ⟨k0, k1, k2, k3, k4, k5⟩ := I3.fpOk (Nat.le_refl _) hC
  have IY := IX.turned (t' := sI.toks) (h' := PySem.W.hideAll sI.heap [s3.heap.objs.size]) (fun b o n q => hid_of n q) k0 k1 k3 k4 k5
  refine tk (.ref a) _ ⟨a, PySem.W.hideAll B [s3.heap.objs.size], _, pins, σ, HI, cls, d, rfl, IY, fun b o q n => ?_, fun b o q nf => ?_, .inr (.inr held4), na, os, ag, wE⟩
  · have z := hid q
    exact hid_of z.1 (nb b o z.2 n)
  · have z := hid q
    obtain ⟨l1, q1⟩ := up b o z.2 nf
    obtain ⟨l2, q2⟩ := up1 b _ q1 nf
    obtain ⟨l3, q3⟩ := up4 b _ (at2 z.1 q2) nf
    exact ⟨l3, q3⟩
/-- [elt for target in iter if ..] whose element may raise what E tells of -/
theorem pe_lcX {elt tg iter : Expr} {ifs : List Expr} {scope : Scope} {own : List (Str × Nat)} {pos : Pos} {wi : TI} {g : TG} {tt : TT} {te : TE}
    (tk : Takes X fun cls d _ H => E cls d H) (hst : X.stack = X.env :: X.outer) (hfr : X.env.frame = some X.env.locals) (hc : X.calm = true) (hN : X.N.Nodup) (hi : PI X tg iter wi) (ok : BlkOk X.N X.env.scope scope own)
    (hg : ∀ s H C cl fp, PG (X.blk s H scope (compEnvC scope cl C X.env) fp) tg g) (ht : ∀ s H C cl fp, PTs (X.blk s H scope (compEnvC scope cl C X.env) fp) ifs tt)
    (he : ∀ s H C cl fp, PE ((X.blk s H scope (compEnvC scope cl C X.env) fp).wish (Air (X.blk s H scope (compEnvC scope cl C X.env) fp) E)) elt te)
    (hs : ∀ x, foldedSetIterable iter X.env x = pure x := by intro _; rfl) :
    PE X (.ListComp elt [⟨tg, iter, ifs, 0⟩] scope pos) (tLc wi g tt te (own.map (·.2))) := by
  refine ⟨fun pins s σ H Q I h => ?_⟩
  rw [eval_ListComp]
  have caught : ∀ y ∈ scope.names, y.2 = .free → ∃ c, X.env.cells.lookup y.1 = some c := fun y hy e => I.ok.has _ (ok.free y hy e)
  refine comprehension_at (use := none) rfl hs (closure_ok caught) ok.kind (fun y hy e => (ok.uniq y hy).trans (congrArg some e)) (thn (hi.run pins s σ H _ I h) fun _ s1 h1 => thn h1 fun _ s2 h2 => ?_)
  obtain ⟨it, fp, tn, J, H2, rfl, I2, T, at0, f2, q⟩ := h2
  refine wpAny_newObj_type (newEnv_comp ?_) (Nat.zero_le _)
  have young : ∀ b ∈ fp, b < s2.heap.objs.size := fun b hb => let ⟨_, e, _⟩ := T.obj _ _ at0 b hb; Heap.lt_size e
  obtain ⟨W, ⟨m0, w0⟩, turn⟩ := q _ (I2.hok.fresh (Nat.le_refl _))
  have I3 := I2.laid (t' := s2.toks) (o := .lst []) (h' := s2.heap.push { cls := .type "list", data := .seq ([] : List Value).toArray }) (fun b o e => Heap.get?_push_of_some _ e) (Nat.le_refl _) ⟨Nat.zero_le _, [], 0, .nil, Heap.get?_push_size _ rfl⟩
  have f3 : ∀ b ∈ fp, FpOk X pins (upd H2 s2.heap.objs.size (.lst [])) b ∧ b < (s2.heap.push { cls := .type "list", data := .seq ([] : List Value).toArray }).objs.size := fun b hb =>
    ⟨⟨(upd_ne (Nat.ne_of_lt (young b hb))).trans (f2 b hb).1, (f2 b hb).2⟩, Nat.lt_of_lt_of_eq (Nat.lt_succ_of_lt (young b hb)) (Heap.size_push _ _).symm⟩
  generalize hs3 : ({ s2 with heap := s2.heap.push { cls := .type "list", data := .seq ([] : List Value).toArray }, toks := s2.toks } : Shared) = s3 at I3
  generalize hH3 : upd H2 s2.heap.objs.size (.lst []) = H3 at I3 f3 w0 turn
  have e3 : s3.heap = s2.heap.push { cls := .type "list", data := .seq ([] : List Value).toArray } := by rw [← hs3]
  rw [← e3] at f3
  have at3 : tn 0 s3.heap := T.keep _ _ _ at0 fun b _ o e => by rw [e3]; exact Heap.get?_push_of_some _ e
  have I4 := block_start I3 ok hN f3
  generalize hcl : cellsFrom (s3.heap.objs.size + 1) scope.names (cloFrom X.env.cells scope.names []) = cl at I4
  have pg := hg s3 H3 s3.heap.objs.size cl fp
  have pt := ht s3 H3 s3.heap.objs.size cl fp
  have pe := he s3 H3 s3.heap.objs.size cl fp
  have fails := fun u s' => air_fails (u := u) (s' := s') (cl := cl) (scope := scope) tk hst hfr I3 (fun b hb => (f3 b hb).1)
  show codeAny _ _ (.compStart (.ListComp elt [⟨tg, iter, ifs, 0⟩] scope pos) 0 (.ref it) (.ref s2.heap.objs.size) (compEnvC scope cl s3.heap.objs.size X.env)) (compEnds (model X.prog X.w) X.A X.xe none (EP X pins σ Q) (.ref s2.heap.objs.size) (compEnvC scope cl s3.heap.objs.size X.env)) _
  have hL : (compEnvC scope cl s3.heap.objs.size X.env).locals = s3.heap.objs.size := rfl
  generalize compEnvC scope cl s3.heap.objs.size X.env = ce at I4 pg pt pe fails hL ⊢
  generalize hs4 : ({ s3 with heap := pushCells (s3.heap.push { cls := .type "dict", data := .dict #[] }) scope.names } : Shared) = s4 at I4 ⊢
  have at4 : tn 0 s4.heap := T.keep _ _ _ at3 fun b _ o e => by rw [← hs4]; exact pushCells_keeps _ _ _ _ (Heap.get?_push_of_some _ e)
  have still : ∀ {H' : Hp} {σ' : L2.St} {s' : Shared}, Inv (X.blk s3 H3 scope ce fp) [] σ' H' s' → (∀ b ∈ fp, H' b = none) → ∀ b ∈ fp, FpOk (X.blk s3 H3 scope ce fp) [] H' b := fun I' n b hb =>
    ⟨n b hb, (I'.ok.exf b hb).1, I'.ok.exfs b hb, Or.inl hb, fun x c e => (I'.ok.exf b hb).2 x c e, fun p hp => nomatch hp⟩
  have calm : ∀ {α : Type} {m : Sem α} {P P' : α → Shared → Prop} {s' : Shared} {F : Value → Shared → Prop}, wpAny (model X.prog X.w) X.A m P (fun _ _ => False) s' → (∀ v s1, P v s1 → P' v s1) → wpAny (model X.prog X.w) X.A m P' F s' := fun h1 h2 => wpAny_mono h1 h2 fun _ _ z => z.elim
  have loop : codeAny (model X.prog X.w) X.A (.compLoop (.ListComp elt [⟨tg, iter, ifs, 0⟩] scope pos) 0 (.ref it) (.ref s2.heap.objs.size) ce) (compEnds (model X.prog X.w) X.A X.xe none (EP X pins σ Q) (.ref s2.heap.objs.size) ce) s4 := by
    refine compLoop_any (fun k s' => ∃ i H', Inv (X.blk s3 H3 scope ce fp) [] (wipe σ (own.map (·.2))) H' s' ∧ tn i s'.heap ∧ (∀ b ∈ fp, H' b = none) ∧ W i k H') (fun k s5 w5 => ?_) m0 ⟨0, H3, I4, at4, fun b hb => (f3 b hb).1.1, w0⟩
    obtain ⟨i, H5, I5, at5, n5, w5⟩ := w5
    rcases turn i k H5 w5 with ⟨stop, done⟩ | ⟨go, Nx, hNx, step⟩
    · refine calm (T.done (X.blk s3 H3 scope ce fp) rfl rfl rfl hc i [] s5 _ H5 _ I5 (still I5 n5) at5 stop) fun r s6 ⟨hr, I6⟩ => ?_
      cases hr
      have IX := I3.call' (ch := fp) I6.os I6.base I6.hok I6.bare fun b hb => ⟨(f3 b hb).1.2.2.2.1, (f3 b hb).1.2.1, (f3 b hb).1.2.2.2.2.1, (f3 b hb).1.2.2.2.2.2⟩
      obtain ⟨m, ns, _⟩ := I6.loc
      have nC : H5 s3.heap.objs.size = none := hL ▸ I6.free
      obtain ⟨k0, k1, k2, k3, k4, k5⟩ := I3.fpOk (Nat.le_refl _) nC
      refine ⟨m, ns, fun h7 sb => ⟨.ref s2.heap.objs.size, H5, IX.turned (t' := s6.toks) (fun b o n e => (sb.2 b ?_).trans e) k0 k1 k3 k4 k5, rfl, done⟩⟩
      exact fun z => n (z.trans hL)
    · refine calm (T.item (X.blk s3 H3 scope ce fp) rfl rfl rfl hc i [] s5 _ H5 _ I5 (still I5 n5) at5 go) fun r s6 ⟨v, hr, h6⟩ => ?_
      cases hr
      refine calm h6 fun _ s7 ⟨x, H7, I7, rx, y7, at7, n7⟩ => ?_
      have I7' := I7.pinned (still I7 n7) (T.obj _ _ at7)
      refine calm (pg.run _ s7 _ H7 x v _ I7' rx (step x H7 y7)) fun _ s8 ⟨σ8, H8, I8, wp8, q8⟩ => ?_
      refine calm (pt.run _ s8 σ8 H8 _ I8 q8) fun b s9 ⟨H9, I9, q9⟩ => ?_
      have back : ∀ {sZ : Shared} {HZ : Hp}, Inv (X.blk s3 H3 scope ce fp) ([] ++ pinsAt fp s7.heap) σ8 HZ sZ → Nx HZ → ∃ k', k' < k ∧ ∃ i H', Inv (X.blk s3 H3 scope ce fp) [] (wipe σ (own.map (·.2))) H' sZ ∧ tn i sZ.heap ∧ (∀ b ∈ fp, H' b = none) ∧ W i k' H' := fun {sZ HZ} IZ nx => by
        obtain ⟨k', lt, wZ⟩ := hNx HZ nx
        have stays : ∀ b ∈ fp, ∀ o, s7.heap.get? b = some o → sZ.heap.get? b = some o ∧ HZ b = none := fun b hb o e => by
          have z := IZ.pin (b, o) (List.mem_append_right _ (List.mem_append_right _ (mem_pinsAt hb e)))
          exact ⟨z.1, z.2.1⟩
        have len8 : (wipe σ (own.map (·.2))).length = σ8.length := (congrArg List.length wp8).symm.trans (wipe_length _ _)
        refine ⟨k', lt, i + 1, HZ, IZ.unpinned.weak len8 (fun j u e => (wipe_some (wp8.symm ▸ e)).1), T.keep _ _ _ at7 fun b hb o e => (stays b hb o e).1, fun b hb => ?_, wZ⟩
        obtain ⟨o, e, _⟩ := T.obj _ _ at7 b hb
        exact (stays b hb o e).2
      cases b with
      | false => exact back I9 (by simpa using q9)
      | true =>
        rw [if_pos rfl] at q9 ⊢
        refine wpAny_mono (pe.run _ s9 σ8 H9 _ (I9.wish _) q9) (fun z s10 ⟨yv, H10, I10, r10, acc, hD, lz, nx⟩ => ?_) fun u s' w => fails u s' w
        exact app_ok (X := X.blk s3 H3 scope ce fp) I10.unwish hD lz r10 fun s11 I11 => back I11 nx
  exact codeAny_compStart_list loop (T.self X.A 0 _ _ _ at4 loop)
end
end Cs
set_option maxHeartbeats 4000000
namespace Cs
open PySem PySem.Spec PyProof.Rows L2
/-! ### a promise that may raise, out of one that does not; two promises of one def -/
theorem fnok_up {P : Program} {w : World} {K : PySem.W.Frag} {mg : Str → Option Value} {base : Heap} {k : Nat} {f : Addr} {fd : FuncData} {ps : List Str} {sp : Sp} (F : FnOk P w K mg base CX0 k f fd ps sp) : FnOk P w K mg base (L2.CX P w) k f fd ps sp :=
  ⟨F.len, fun A outer s H args us vs Q E hr he hb hv hs => codeAny_mono (F.run A outer s H args us vs Q E hr he hb hv hs) fun r s' h => by
    cases r with
    | ok fl => cases fl <;> exact h
    | error e => exact False.elim h⟩
theorem fnok_or {P : Program} {w : World} {K : PySem.W.Frag} {mg : Str → Option Value} {base : Heap} {CX : CXT} {k : Nat} {f : Addr} {fd : FuncData} {ps : List Str} {sp sp' : Sp} (F : FnOk P w K mg base CX k f fd ps sp) (G : FnOk P w K mg base CX k f fd ps sp') : FnOk P w K mg base CX k f fd ps fun vs H Q E => sp vs H Q E ∨ sp' vs H Q E :=
  ⟨fun vs H Q E h => h.elim (F.len vs H Q E) (G.len vs H Q E), fun A outer s H args us vs Q E hr he hb hv hs => hs.elim (F.run A outer s H args us vs Q E hr he hb hv) (G.run A outer s H args us vs Q E hr he hb hv)⟩
/-! ### a raise that depends on what the heap holds -/
def spRH (A : List V → Hp → Prop) (n : Nat) (C : Addr) : Sp := fun vs H _ E => vs.length = n ∧ A vs H ∧ ∀ (dd : Option Addr) H', Same H H' → E (.ref C) dd H'
def RaisesAtH (P : Program) (w : World) (K : PySem.W.Frag) (mg : Str → Option Value) (base : Heap) (k : Nat) (f : Addr) (args : List V) (H : Hp) (C : Addr) : Prop :=
  ∃ (fd : FuncData) (ps : List Str) (A : List V → Hp → Prop) (n : Nat), FnOk P w K mg base (L2.CX P w) k f fd ps (spRH A n C) ∧ PySem.W.keepIn K (.ref f) = true ∧ Binds K fd ps [] ∧ A args H ∧ args.length = n
theorem RaisesAtH.of {P : Program} {w : World} {K : PySem.W.Frag} {mg : Str → Option Value} {base : Heap} {j k : Nat} {x : Str} {ps : List Str} {A : List V → Hp → Prop} {n : Nat} {C f : Addr} {args : List V} {H : Hp} (c : CalX P w K mg base j x ps (spRH A n C)) (hj : j ≤ k) (g : mg x = some (.ref f)) (ha : A args H) (hn : args.length = n) : RaisesAtH P w K mg base k f args H C := by
  obtain ⟨f', fd, F, g', kp, b⟩ := c
  rw [g] at g'
  cases g'
  exact ⟨fd, ps, A, n, F.mono hj, kp, b, ha, hn⟩
def spRefusesH (P : Program) (w : World) (K : PySem.W.Frag) (mg : Str → Option Value) (base : Heap) (k : Nat) (CD CW : Addr) : Sp := fun vs H Q _ => ∃ (f L : Addr) (args : List V) (C : Addr) (wd : Str), vs = [.ref f, .ref L, .str wd] ∧ H L = some (.lst args) ∧ args.length = 4 ∧ RaisesAtH P w K mg base k f args H C ∧ ((C = CD ∧ wd = "day") ∨ (C = CW ∧ wd = "word")) ∧ ∀ H', Same H H' → Q (.bl true) H'
theorem ei_refusesH {σ : L2.St} {H : Hp} {ta tb : TE} {E : XK} {P : Program} {w : World} {K : PySem.W.Frag} {mg : Str → Option Value} {base : Heap} {k : Nat} {CD CW C f : Addr} {wd : Str} {args : List V} (h : EI ta σ H (.ref f)) (g : ELs tb σ H args) (hn : args.length = 4) (hr : ∀ H', Same H H' → RaisesAtH P w K mg base k f args H' C) (hw : (C = CD ∧ wd = "day") ∨ (C = CW ∧ wd = "word")) :
    EI (tCall (spRefusesH P w K mg base k CD CW) [] E (tCons ta (tCons tb (tCons (tC (.str wd)) tNil)))) σ H (.bl true) := fun H1 e Q q =>
  h H1 e _ fun H2 e2 => g H2 (e.trans e2) _ fun L H3 e3 hL => ⟨f, L, args, C, wd, rfl, hL, hn, hr H3 ((e.trans e2).trans e3), hw, fun H4 e4 => q H4 ((e2.trans e3).trans e4)⟩
/-! ### interest -/
def spInt : Sp := fun vs H Q _ => ∃ (p q : Addr) (r s : Rat) (c : Str) (x y : Int), vs = [.ref p, .ref q, .str c, .int x, .int y] ∧ H p = some (nd r) ∧ H q = some (nd s) ∧ Sz 300 r ∧ Sz 300 s ∧ c ∈ counts ∧ 0 ≤ x ∧ x ≤ y ∧ y < 2 ^ 40 ∧ ∀ t H', Same H H' → H' t = some (nd (r * s * prt c x y)) → Q (.ref t) H'
def aInt (bad : Str → Int → Int → Prop) : List V → Hp → Prop := fun vs H => ∃ (p q : Addr) (r s : Rat) (c : Str) (x y : Int), vs = [.ref p, .ref q, .str c, .int x, .int y] ∧ H p = some (nd r) ∧ H q = some (nd s) ∧ Sz 300 r ∧ Sz 300 s ∧ bad c x y
/-- fractions, in new tuples -/
def QAt (H : Hp) (f : Nat → Rat) (n : Nat) (acc : List V) : Prop := acc.length = n ∧ ∀ j, j < n → ∃ t : Addr, acc[j]? = some (.ref t) ∧ H t = some (nd (f j))
section
variable {H H' : Hp} {f : Nat → Rat} {n : Nat} {acc : List V}
theorem QAt.same (h : QAt H f n acc) (k : Same H H') : QAt H' f n acc := ⟨h.1, fun j hj => by
  obtain ⟨t, h1, h2⟩ := h.2 j hj
  exact ⟨t, h1, k _ _ h2⟩⟩
theorem QAt.snoc {t : Addr} (h : QAt H f n acc) (ht : H t = some (nd (f n))) : QAt H f (n + 1) (acc ++ [.ref t]) := ⟨by simp [h.1], fun j hj => by
  rcases Nat.lt_or_ge j n with q | q
  · obtain ⟨t', h1, h2⟩ := h.2 j q
    exact ⟨t', by rw [List.getElem?_append_left (by rw [h.1]; exact q)]; exact h1, h2⟩
  · have : j = n := by omega
    subst this
    refine ⟨t, ?_, ht⟩
    rw [List.getElem?_append_right (by rw [h.1]; exact Nat.le_refl _), h.1, Nat.sub_self]
    rfl⟩
theorem QAt.fill {D : Addr} {o : HO} {ys : List V} (h : QAt H f n acc) (hD : H D = some (.lst ys)) : QAt (upd H D o) f n acc := ⟨h.1, fun j hj => by
  obtain ⟨t, h1, h2⟩ := h.2 j hj
  refine ⟨t, h1, ?_⟩
  rw [upd_ne (fun q => by rw [q, hD] at h2; cases h2)]
  exact h2⟩
theorem QAt.new {D : Addr} {o : HO} (h : QAt H f n acc) (hD : H D = none) : QAt (upd H D o) f n acc := h.same (Same.new hD)
def dQ (r : Rat) : PyData := .tuple [.int r.num, .int (r.den : Int)]
def dQs (f : Nat → Rat) (n : Nat) : PyData := .list ((List.range n).map fun j => dQ (f j))
theorem QAt.dp {K : PySem.W.Frag} (h : QAt H f n acc) : DpAll K H acc ((List.range n).map fun j => dQ (f j)) := by
  have q := dpAll_map (K := K) (H := H) (fun j => dQ (f j)) acc 0 fun j hj => by
    rw [h.1] at hj
    obtain ⟨t, h1, h2⟩ := h.2 j hj
    refine ⟨_, h1, ?_⟩
    rw [Nat.zero_add]
    exact .tup (SqT.of h2) (.cons (.int _) (.cons (.int _) .nil))
  rw [h.1, ← List.range_eq_range'] at q
  exact q
theorem canLay_dQs (f : Nat → Rat) : ∀ l : List Nat, PyData.canLayAll0 (l.map fun j => dQ (f j)) = true
  | [] => rfl
  | n :: ns => by
    rw [List.map_cons, PyData.canLayAll0, canLay_dQs f ns]
    rfl
theorem depth_dQs (f : Nat → Rat) : ∀ l : List Nat, PyData.depthAll (l.map fun j => dQ (f j)) ≤ 2
  | [] => by simp [PyData.depthAll]
  | n :: ns => by
    have h := depth_dQs f ns
    rw [List.map_cons, PyData.depthAll]
    have : (dQ (f n)).depth ≤ 2 := by simp [dQ, PyData.depth, PyData.depthAll]
    omega
theorem shaped_dQs (f : Nat → Rat) (n : Nat) : SeqAt.shaped (dQs f n) = true := by
  have h1 := canLay_dQs f (List.range n)
  have d1 := depth_dQs f (List.range n)
  unfold SeqAt.shaped dQs
  rw [Bool.and_eq_true]
  refine ⟨by simp [PyData.canLay0, h1], decide_eq_true ?_⟩
  simp only [PyData.depth]
  omega
end
def EQs (te : TE) (σ : L2.St) (H : Hp) (f : Nat → Rat) (n : Nat) : Prop := ∀ H1, Same H H1 → ∀ Q : VK, (∀ p H2 acc, Same H1 H2 → H2 p = some (.lst acc) → QAt H2 f n acc → Q (.ref p) H2) → te σ H1 Q
section
variable {K : PySem.W.Frag} {σ : L2.St} {H : Hp} {ta tb tc td te : TE} {E : XK} {f : Nat → Rat} {n : Nat} {r s : Rat} {c : Str} {x y : Int}
theorem eqs_var {i : Nat} {p : Addr} {acc : List V} (h : σ[i]? = some (some (.ref p))) (hp : H p = some (.lst acc)) (hq : QAt H f n acc) : EQs (tVar i) σ H f n := fun H1 e Q q => ⟨_, h, q p H1 acc (Same.refl H1) (e _ _ hp) (hq.same e)⟩
theorem eqs_nil : EQs (tLst tNil) σ H f 0 := fun H1 e Q q => ⟨Nat.zero_le _, fun l hl => q l _ [] (Same.new hl) upd_same ⟨rfl, fun j hj => absurd hj (Nat.not_lt_zero _)⟩⟩
theorem et_neQs (ha : EQs ta σ H f n) (hb : EQs tb σ H f n) : ET (tTest (tOp (rNeD K) ta tb)) σ H false := fun H1 e Q k =>
  ha H1 e _ fun p H2 acc e2 hp hq => hb H2 (e.trans e2) _ fun p' H3 acc' e3 hp' hq' =>
    ⟨dQs f n, dQs f n, .lst (SqL.of (e3 _ _ hp)) (hq.same e3).dp, .lst (SqL.of hp') hq'.dp, shaped_dQs f n, shaped_dQs f n, false, by
      rw [SeqAt.eqv_refl _ (SeqAt.canLay_of_shaped (shaped_dQs f n))]
      rfl, k H3 (e2.trans e3)⟩
theorem eq_int (ha : EQ ta σ H r) (hb : EQ tb σ H s) (hc : EI tc σ H (.str c)) (hd : EI td σ H (.int x)) (he : EI te σ H (.int y)) (zr : Sz 300 r) (zs : Sz 300 s) (cc : c ∈ counts) (x0 : 0 ≤ x) (xy : x ≤ y) (y1 : y < 2 ^ 40) : EQ (tCall spInt [] E (tCons ta (tCons tb (tCons tc (tCons td (tCons te tNil)))))) σ H (r * s * prt c x y) := fun H1 e Q k =>
  ha H1 e _ fun p H2 e2 hp => hb H2 (e.trans e2) _ fun q H3 e3 hq => hc H3 ((e.trans e2).trans e3) _ fun H4 e4 => hd H4 (((e.trans e2).trans e3).trans e4) _ fun H5 e5 => he H5 ((((e.trans e2).trans e3).trans e4).trans e5) _ fun H6 e6 =>
    ⟨p, q, r, s, c, x, y, rfl, ((e3.trans e4).trans (e5.trans e6)) _ _ hp, (e4.trans (e5.trans e6)) _ _ hq, zr, zs, cc, x0, xy, y1, fun t H7 e7 h7 => k t H7 (((e2.trans e3).trans (e4.trans e5)).trans (e6.trans e7)) h7⟩
end
/-- days that ascend -/
def Asc (ns : List Int) : Prop := ∀ j x y, ns[j]? = some x → ns[j + 1]? = some y → 0 ≤ x ∧ x ≤ y ∧ y < 2 ^ 40
noncomputable def intr (a : Rat) (c : Str) (ns : List Int) (j : Nat) : Rat := a * prt c (ns.getD j 0) (ns.getD (j + 1) 0)
def spInts : Sp := fun vs H Q _ => ∃ (p q L : Addr) (r s : Rat) (c : Str) (ns : List Int), vs = [.ref p, .ref q, .str c, .ref L] ∧ H p = some (nd r) ∧ H q = some (nd s) ∧ Sz 300 r ∧ Sz 300 s ∧ c ∈ counts ∧ H L = some (.lst (ns.map V.int)) ∧ ns.length ≤ 1500 ∧ Asc ns ∧ ∀ (t : Addr) (acc : List V) H', Same H H' → H' t = some (.lst acc) → QAt H' (intr (r * s) c ns) (ns.length - 1) acc → Q (.ref t) H'
/-- the first successive days that are refused stand at i -/
def aInts (bad : Str → Int → Int → Prop) : List V → Hp → Prop := fun vs H => ∃ (p q L : Addr) (r s : Rat) (c : Str) (ns : List Int) (i : Nat) (x y : Int), vs = [.ref p, .ref q, .str c, .ref L] ∧ H p = some (nd r) ∧ H q = some (nd s) ∧ Sz 300 r ∧ Sz 300 s ∧ H L = some (.lst (ns.map V.int)) ∧ ns.length ≤ 1500 ∧ ns[i]? = some x ∧ ns[i + 1]? = some y ∧ bad c x y ∧ ∀ j < i, c ∈ counts ∧ ∀ u v, ns[j]? = some u → ns[j + 1]? = some v → 0 ≤ u ∧ u ≤ v ∧ v < 2 ^ 40
section
variable {K : PySem.W.Frag} {σ : L2.St} {H : Hp} {ta tb tc td : TE} {E : XK} {r s : Rat} {c : Str} {ns : List Int}
theorem eqs_ints (ha : EQ ta σ H r) (hb : EQ tb σ H s) (hc : EI tc σ H (.str c)) (hd : ELs td σ H (ns.map V.int)) (zr : Sz 300 r) (zs : Sz 300 s) (cc : c ∈ counts) (hn : ns.length ≤ 1500) (hu : Asc ns) : EQs (tCall spInts [] E (tCons ta (tCons tb (tCons tc (tCons td tNil))))) σ H (intr (r * s) c ns) (ns.length - 1) := fun H1 e Q k =>
  ha H1 e _ fun p H2 e2 hp => hb H2 (e.trans e2) _ fun q H3 e3 hq => hc H3 ((e.trans e2).trans e3) _ fun H4 e4 => hd H4 (((e.trans e2).trans e3).trans e4) _ fun L H5 e5 hL =>
    ⟨p, q, L, r, s, c, ns, rfl, ((e3.trans e4).trans e5) _ _ hp, (e4.trans e5) _ _ hq, zr, zs, cc, hL, hn, hu, fun t acc H7 e7 h7 h8 => k t H7 acc (((e2.trans e3).trans (e4.trans e5)).trans e7) h7 h8⟩
end
theorem ints_sum {a : Rat} {c : Str} {ns : List Int} (i : Nat) : a * prt c (ns.getD 0 0) (ns.getD i 0) + intr a c ns i = a * prt c (ns.getD 0 0) (ns.getD (i + 1) 0) := by
  unfold intr
  have := prt_add c (ns.getD 0 0) (ns.getD i 0) (ns.getD (i + 1) 0)
  rw [← this]
  grind
theorem els_nil {σ : L2.St} {H : Hp} : ELs (tLst tNil) σ H [] := fun H1 e Q q => ⟨Nat.zero_le _, fun l hl => q l _ (Same.new hl) upd_same⟩
theorem els_is {te : TE} {σ : L2.St} {H : Hp} {vs us : List V} (h : ELs te σ H vs) (e : vs = us) : ELs te σ H us := e ▸ h
theorem ei_refusesH4 {σ : L2.St} {H : Hp} {ta t1 t2 t3 t4 : TE} {E : XK} {P : Program} {w : World} {K : PySem.W.Frag} {mg : Str → Option Value} {base : Heap} {k : Nat} {CD CW C f : Addr} {wd : Str} {x y z : V} {ls : List V} (h : EI ta σ H (.ref f)) (h1 : EI t1 σ H x) (h2 : EI t2 σ H y) (h3 : EI t3 σ H z) (h4 : ELs t4 σ H ls) (hr : ∀ L H', Same H H' → H' L = some (.lst ls) → RaisesAtH P w K mg base k f [x, y, z, .ref L] H' C) (hw : (C = CD ∧ wd = "day") ∨ (C = CW ∧ wd = "word")) :
    EI (tCall (spRefusesH P w K mg base k CD CW) [] E (tCons ta (tCons (tLst (tCons t1 (tCons t2 (tCons t3 (tCons t4 tNil))))) (tCons (tC (.str wd)) tNil)))) σ H (.bl true) := fun H1 e Q q =>
  h H1 e _ fun H2 e2 => h1 H2 (e.trans e2) _ fun H3 e3 => h2 H3 ((e.trans e2).trans e3) _ fun H4 e4 => h3 H4 (((e.trans e2).trans e3).trans e4) _ fun H5 e5 => h4 H5 ((((e.trans e2).trans e3).trans e4).trans e5) _ fun L H6 e6 hL => ⟨by show 4 ≤ sizeLine; decide, fun M nM => by
    have s6 := (((e2.trans e3).trans e4).trans e5).trans e6
    have s7 := s6.trans (Same.new (o := .lst [x, y, z, .ref L]) nM)
    exact ⟨f, M, [x, y, z, .ref L], C, wd, rfl, upd_same, rfl, hr L _ (e.trans s7) (Same.new nM _ _ hL), hw, fun H7 e7 => q H7 (s7.trans e7)⟩⟩
theorem els_catB {σ : L2.St} {H : Hp} {tb : TE} {i : Nat} {p : Addr} {vs : List V} {v : V} (h : σ[i]? = some (some (.ref p))) (hp : H p = some (.lst vs)) (g : EI tb σ H v) (hn : vs.length ≤ 2000) : ELs (tOp rCat (tVar i) (tLst (tCons tb tNil))) σ H (vs ++ [v]) := fun H1 e Q q =>
  ⟨_, h, g H1 e _ fun H2 e2 => ⟨by show 1 ≤ sizeLine; decide, fun M nM => ⟨p, M, _, _, rfl, rfl, Same.new nM _ _ (e2 _ _ (e _ _ hp)), upd_same, Nat.le_trans (show vs.length + 1 ≤ 2001 by omega) (by rw [sizeLine_eq]; decide), fun r nr => q r _ ((e2.trans (Same.new nM)).trans (Same.new nr)) upd_same⟩⟩⟩
theorem st_setQs {σ : L2.St} {H : Hp} {ta : TE} {i : Nat} {f : Nat → Rat} {n : Nat} {D : L2.Ends} {H1 : Hp} (h : EQs ta σ H f n) (e : Same H H1) (k : ∀ p H2 acc, Same H H2 → H2 p = some (.lst acc) → QAt H2 f n acc → D.nx (σ.set i (some (.ref p))) H2) : tAsg ta (gName i) D σ H1 := h H1 e _ fun p H2 acc e2 h2 h3 => k p H2 acc (e.trans e2) h2 h3
/-- the days of a schedule ascend -/
theorem sched_asc {s e m : Int} {T : Nat} (h : SchedOk s e m T) (s0 : 0 ≤ s) (e0 : 0 ≤ e) (hm : 1 ≤ m) (eb : e < 2 ^ 40) : Asc (sched s e m T) := fun j x y hx hy => by
  have hl : j + 1 < T + 1 := by
    have := (List.getElem?_eq_some_iff.mp hy).1
    rw [sched_len] at this
    exact this
  rw [sched_at (show j ≤ T by omega)] at hx
  rw [sched_at (show j + 1 ≤ T by omega)] at hy
  cases hx
  cases hy
  have h1 := sched_up h hm (show j < T by omega)
  have h2 := sday_le (j := j + 1) h
  have h3 := sday_nn (s := s) (e := e) (m := m) (T := T) (j := j) s0 e0 hm
  omega
theorem getD_of {ns : List Int} {i : Nat} {x : Int} (h : ns[i]? = some x) : ns.getD i 0 = x := by
  rw [List.getD_eq_getElem?_getD, h]
  rfl
end Cs
set_option maxHeartbeats 4000000
namespace Cs
open PySem PySem.Spec PyProof.Rows L2
def topS (i : Nat) : Stmt := PySem.Challenge.pw_consol_k13_whole_interest_adds_up.main.body.getD i (.Pass ⟨0, 0, 0, 0⟩)
local macro_rules | `(tactic| walk_at "rd") => `(tactic| (first
  | (refine ⟨_, rfl, ?_⟩)
  | (refine ⟨_, _, rfl, rfl, ?_⟩)
  | (refine .inl ⟨_, rfl, ?_⟩)
  | (refine .inr ⟨_, rfl, ?_⟩)
  | (refine ⟨_, _, _, _, rfl, rfl, SqL.of upd_same, rfl, ?_⟩)
  | (refine ⟨_, _, _, _, rfl, rfl, upd_same, rfl, ?_⟩)
  | (refine ⟨_, ?xs, _, ?v, rfl, rfl, ?h, ?x, ?_⟩; (case h => first | exact SqL.of (by assumption) | exact SqT.of (by assumption) | assumption); (case x => first | rfl | exact atI_nat (j := 0) rfl | exact atI_nat (j := 1) rfl))))
local macro_rules | `(tactic| walk_at "isi") => `(tactic| (first
  | (refine ⟨_, _, _, _, _, rfl, .ty _, .base (.int _), kit_ty kit_it, ?_⟩)
  | (refine ⟨_, _, _, _, _, rfl, .ty _, .base (.int _), kit_ty kit_ib, ?_⟩)
  | (refine ⟨_, _, _, _, _, rfl, .ty _, .base (.int _), kit_ty kit_ii, ?_⟩)
  | (refine ⟨_, _, _, _, _, rfl, .ty _, .base (.bl _), kit_ty kit_bt, ?_⟩)
  | (refine ⟨_, _, _, _, _, rfl, .ty _, .base (.bl _), kit_ty kit_bb, ?_⟩)
  | (refine ⟨_, _, _, _, _, rfl, .ty _, .base (.bl _), kit_ty kit_bi, ?_⟩)))
section
variable {P : Program} {w : World} {K : PySem.W.Frag} {mg : Str → Option Value} {base : Heap}
abbrev sCheck : Stmt := topS 15
theorem scCheck : FnScope ["day"] ["day"] (defScope sCheck) := ⟨rfl, rfl, rfl, by decide +kernel, rfl, by decide +kernel, by decide +kernel⟩
abbrev sMLen : Stmt := topS 12
theorem scMLen : FnScope ["month"] ["month"] (defScope sMLen) := ⟨rfl, rfl, rfl, by decide +kernel, rfl, by decide +kernel, by decide +kernel⟩
abbrev sDateOf : Stmt := topS 10
theorem scDateOf : FnScope ["day", "year", "left", "month"] ["day"] (defScope sDateOf) := ⟨rfl, rfl, rfl, by decide +kernel, rfl, by decide +kernel, by decide +kernel⟩
theorem ok_check {f : Addr} {fd : FuncData} {k : Nat} (F : Fun K "_check_day" "_check_day" sCheck f fd) : FnOk P w K mg base CX0 (k + 1) f fd ["day"] spCheck := by
  refine F.ok scCheck (fun vs H Q E h => ?_) (fun cdv A outer s H vs Q E hr h => ?_)
  · obtain ⟨d, rfl, _⟩ := h
    rfl
  · obtain ⟨d, rfl, d0, out⟩ := h
    refine ⟨_, (pss_one (ps_if (pt_cmpR op_lt (pv 0) pe_int (nomark _)) (pss_one ps_never) pss_nil)), ?_⟩
    exact ⟨_, rfl, _, _, rfl, rfl, _, rfl, ite2 (fun h => absurd (of_decide_eq_true h) (by omega)) (fun _ => out)⟩
theorem ok_checkX {f : Addr} {fd : FuncData} {k : Nat} {C : Addr} (F : Fun K "_check_day" "_check_day" sCheck f fd) (EC : ErrC K mg "InvalidDay" C) : FnOk P w K mg base (L2.CX P w) (k + 1) f fd ["day"] (spR (fun vs => ∃ d : Int, vs = [.int d] ∧ d < 0) 1 C) := by
  refine F.okX scCheck (fun vs H Q E h => h.1) (fun cdv A outer s H vs Q E hr h => ?_)
  obtain ⟨_, ⟨d, rfl, hd⟩, out⟩ := h
  refine ⟨_, pss_one (ps_if (pt_cmpR op_lt (pv 0) pe_int (nomark _)) (pss_one (ps_raise rfl (takes_of rfl rfl rfl rfl) (pmk_own0 PySem.F.excBase_ValueError EC.ex EC.g EC.kp (raises_own EC.sb EC.ty) (by rfl)))) pss_nil), ?_⟩
  exact ⟨_, rfl, _, _, rfl, rfl, _, rfl, ite2 (fun _ => out none H (Same.refl H)) (fun z => absurd (decide_eq_true hd) z)⟩
theorem ok_mlen {f : Addr} {fd : FuncData} {k : Nat} {zL : Addr} {t12 : Tok} (F : Fun K "month_length" "month_length" sMLen f fd) (m_MONTHS_OF_YEAR : mg "MONTHS_OF_YEAR" = some (.int 12 t12)) (m_LENGTHS : mg "LENGTHS" = some (.ref zL)) (hL : ∀ H, SqT K H zL (lens.map V.int)) : FnOk P w K mg base CX0 (k + 1) f fd ["month"] spMLen := by
  refine F.ok scMLen (fun vs H Q E h => ?_) (fun cdv A outer s H vs Q E hr h => ?_)
  · obtain ⟨i, _, rfl, _⟩ := h
    rfl
  · obtain ⟨i, hi, rfl, out⟩ := h
    refine ⟨_, (pss_cons (ps_if (PW.pt (pw_or (pt_cmpR op_lt (pv 0) pe_int (nomark _)) (pw_or1 (pt_cmpR op_gt (pv 0) (pe_glob (v := .int 12) (by rfl) m_MONTHS_OF_YEAR ⟨_, rfl⟩) (nomark _))))) (pss_one ps_never) pss_nil)
      (pss_one (ps_ret (pe_ix ix_tup (pe_glob (v := .ref zL) (by rfl) m_LENGTHS rfl) (pe_op op_sub (pv 0) pe_int) (fun _ _ => rfl))))), ?_⟩
    refine ⟨_, rfl, _, _, rfl, rfl, _, rfl, ?_⟩
    rw [decide_eq_false (show ¬ ((i : Int) + 1 < 1) by omega)]
    refine iteF ?_
    refine ⟨_, rfl, _, _, rfl, rfl, _, rfl, ?_⟩
    rw [decide_eq_false (show ¬ (12 < (i : Int) + 1) by omega)]
    refine iteF ?_
    refine ⟨_, rfl, _, _, rfl, rfl, _, _, _, _, rfl, rfl, hL H, ?_, out⟩
    rw [show ((i : Int) + 1 - 1) = (i : Int) by omega]
    exact atI_nat (lens_at i hi)
theorem ok_mlenX {f : Addr} {fd : FuncData} {k : Nat} {C : Addr} {t12 : Tok} (F : Fun K "month_length" "month_length" sMLen f fd) (m_MONTHS_OF_YEAR : mg "MONTHS_OF_YEAR" = some (.int 12 t12)) (EC : ErrC K mg "InvalidDay" C) : FnOk P w K mg base (L2.CX P w) (k + 1) f fd ["month"] (spR (fun vs => ∃ m : Int, vs = [.int m] ∧ ¬ (1 ≤ m ∧ m ≤ 12)) 1 C) := by
  refine F.okX scMLen (fun vs H Q E h => h.1) (fun cdv A outer s H vs Q E hr h => ?_)
  obtain ⟨_, ⟨m, rfl, hm⟩, out⟩ := h
  refine ⟨_, pss_cons (ps_if (PW.pt (pw_or (pt_cmpR op_lt (pv 0) pe_int (nomark _)) (pw_or1 (pt_cmpR op_gt (pv 0) (pe_glob (v := .int 12) (by rfl) m_MONTHS_OF_YEAR ⟨_, rfl⟩) (nomark _))))) (pss_one (ps_raise rfl (takes_of rfl rfl rfl rfl) (pmk_own0 PySem.F.excBase_ValueError EC.ex EC.g EC.kp (raises_own EC.sb EC.ty) (by rfl)))) pss_nil) pss_never, ?_⟩
  refine ⟨_, rfl, _, _, rfl, rfl, _, rfl, ite2 (fun _ => iteT (out none H (Same.refl H))) (fun z => ?_)⟩
  have z1 : ¬ m < 1 := fun q => z (decide_eq_true q)
  exact ⟨_, rfl, _, _, rfl, rfl, _, rfl, ite2 (fun _ => out none H (Same.refl H)) (fun z2 => absurd (decide_eq_true (show (12 : Int) < m by omega)) z2)⟩
theorem ok_dateof {f : Addr} {fd : FuncData} {k : Nat} {t365 : Tok} (F : Fun K "date_of" "date_of" sDateOf f fd) (c_check_day : Cal P w K mg base k "_check_day" ["day"] spCheck) (c_month_length : Cal P w K mg base k "month_length" ["month"] spMLen) (m_DAYS_OF_YEAR : mg "DAYS_OF_YEAR" = some (.int 365 t365)) (z_divmod : mg "divmod" = none) : FnOk P w K mg base CX0 (k + 1) f fd ["day"] spDateOf := by
  refine F.ok scDateOf (fun vs H Q E h => ?_) (fun cdv A outer s H vs Q E hr h => ?_)
  · obtain ⟨d, rfl, _⟩ := h
    rfl
  · obtain ⟨day, rfl, d0, out⟩ := h
    refine ⟨_, (pss_cons (ps_expr (pe_cal c_check_day hr (by rfl) (pa_cons (pv 0) pa_nil)))
      (pss_cons (ps_asg (pe_callB call_divmod (by rfl) z_divmod (by decide +kernel) (pa_cons (pv 0) (pa_cons (pe_glob (v := .int 365) (by rfl) m_DAYS_OF_YEAR ⟨_, rfl⟩) pa_nil))) (pg_tup rfl (pgs_cons (pg_name (i := 1) scDateOf.nd rfl (Or.inl rfl)) (pgs_cons (pg_name (i := 2) scDateOf.nd rfl (Or.inl rfl)) pgs_nil))))
      (pss_cons (ps_set (i := 3) scDateOf.nd rfl (Or.inl rfl) pe_int)
      (pss_cons (ps_while PassesOwn.never (pt_cmpR op_ge (pv 2) (pe_cal c_month_length hr (by rfl) (pa_cons (pv 3) pa_nil)) (nomark _)) (pss_cons (ps_set (i := 2) scDateOf.nd rfl (Or.inl rfl) (pe_op op_sub (pv 2) (pe_cal c_month_length hr (by rfl) (pa_cons (pv 3) pa_nil))))
      (pss_one (ps_set (i := 3) scDateOf.nd rfl (Or.inl rfl) (pe_op op_add (pv 3) pe_int)))))
      (pss_one (ps_ret (pe_tup (pa_cons (pv 1) (pa_cons (pv 3) (pa_cons (pe_op op_add (pv 2) pe_int) pa_nil)))))))))), ?_⟩
    refine ⟨_, rfl, day, rfl, d0, ?_⟩
    refine ⟨_, rfl, _, _, rfl, ⟨by decide, by decide⟩, fun p np => ?_⟩
    refine ⟨p, [_, _], rfl, SqT.of upd_same, rfl, _, [_], rfl, _, [], rfl, rfl, ?_⟩
    have sp := Same.new (o := .tup [.int (day / 365), .int (day % 365)]) np
    have r0 : 0 ≤ day % 365 := Int.emod_nonneg _ (by decide)
    have r1 : day % 365 < 365 := Int.emod_lt_of_pos _ (by decide)
    refine ⟨fun m σ H' => ∃ i : Nat, m = 12 - i ∧ i < 12 ∧ cum i ≤ day % 365 ∧ σ = [some (.int day), some (.int (day / 365)), some (.int (day % 365 - cum i)), some (.int ((i : Int) + 1))] ∧ H' = upd H p (.tup [.int (day / 365), .int (day % 365)]), ⟨12, 0, rfl, by decide, r0, ?_, rfl⟩, ?_⟩
    · rw [cum_zero, Int.sub_zero]
      rfl
    rintro m σ H1 ⟨i, rfl, hi, hc, rfl, rfl⟩
    refine ⟨_, rfl, _, rfl, i, hi, rfl, _, _, rfl, rfl, _, rfl, ite2 (fun h => ?_) (fun h => ?_)⟩
    · have h' : mlen i ≤ day % 365 - cum i := of_decide_eq_true h
      have hs := cum_succ i hi
      have hi2 : i + 1 < 12 := by
        rcases Nat.lt_or_ge (i + 1) 12 with z | z
        · exact z
        · have e : i + 1 = 12 := by omega
          rw [e, cum_all] at hs
          omega
      refine ⟨fun σ' H' => σ' = [some (.int day), some (.int (day / 365)), some (.int (day % 365 - cum (i + 1))), some (.int (((i + 1 : Nat) : Int) + 1))] ∧ H' = upd H p (.tup [.int (day / 365), .int (day % 365)]), fun σ' H' hN => ⟨12 - (i + 1), by omega, i + 1, rfl, hi2, by omega, hN.1, hN.2⟩, ?_⟩
      refine ⟨_, rfl, _, rfl, i, hi, rfl, _, _, rfl, rfl, _, rfl, _, _, rfl, rfl, ?_, rfl⟩
      rw [show day % 365 - cum (i + 1) = day % 365 - cum i - mlen i by omega]
      rfl
    · have h' : ¬ mlen i ≤ day % 365 - cum i := fun z => h (decide_eq_true z)
      refine ⟨_, rfl, _, rfl, _, rfl, _, _, rfl, rfl, by show 3 ≤ sizeLine; decide, fun t nt => ?_⟩
      exact out t _ (day / 365) i (day % 365 - cum i + 1) (sp.trans (Same.new nt)) upd_same ⟨hi, by omega, by omega, by omega⟩
theorem ok_dateofX {f : Addr} {fd : FuncData} {k : Nat} {C : Addr} (F : Fun K "date_of" "date_of" sDateOf f fd) (c : CalX P w K mg base k "_check_day" ["day"] (spR (fun vs => ∃ d : Int, vs = [.int d] ∧ d < 0) 1 C)) : FnOk P w K mg base (L2.CX P w) (k + 1) f fd ["day"] (spR (fun vs => ∃ d : Int, vs = [.int d] ∧ d < 0) 1 C) := by
  refine F.okX scDateOf (fun vs H Q E h => h.1) (fun cdv A outer s H vs Q E hr h => ?_)
  obtain ⟨_, ⟨d, rfl, hd⟩, out⟩ := h
  refine ⟨_, pss_cons (ps_expr (pe_calX c hr (by rfl) (passes_call (takes_of rfl rfl rfl rfl) (fun _ _ _ _ h => h)) (pa_cons (pv 0) pa_nil))) pss_never, ?_⟩
  exact ⟨_, rfl, rfl, ⟨d, rfl, hd⟩, out⟩
abbrev sDayOf : Stmt := topS 11
theorem scDayOf : FnScope ["year", "month", "number", "length"] ["year", "month", "number"] (defScope sDayOf) := ⟨rfl, rfl, rfl, by decide +kernel, rfl, by decide +kernel, by decide +kernel⟩
theorem cut_lens {K : PySem.W.Frag} (i : Nat) (hi : i < 12) : cutV (lens.map V.int) none (some ((i : Int) + 1 - 1)) = (lens.take i).map V.int := by
  rw [show ((i : Int) + 1 - 1) = (i : Int) by omega]
  unfold cutV
  rw [HT.sIx_none, HT.sIx_nat, List.drop_zero, Nat.sub_zero, Nat.min_eq_left (by show i ≤ 12; omega), List.map_take]
theorem not_whole (i : Nat) (hi : i < 12) : ¬ (HT.sIx (lens.map V.int).length 0 none = 0 ∧ HT.sIx (lens.map V.int).length (lens.map V.int).length (some ((i : Int) + 1 - 1)) = (lens.map V.int).length) := by
  rw [show ((i : Int) + 1 - 1) = (i : Int) by omega, HT.sIx_nat]
  intro z
  have := z.2
  rw [show (lens.map V.int).length = 12 from rfl] at this
  omega
theorem ok_dayof {f : Addr} {fd : FuncData} {k : Nat} {zL : Addr} {t365 : Tok} (F : Fun K "day_of" "day_of" sDayOf f fd) (c_month_length : Cal P w K mg base k "month_length" ["month"] spMLen) (m_DAYS_OF_YEAR : mg "DAYS_OF_YEAR" = some (.int 365 t365)) (m_LENGTHS : mg "LENGTHS" = some (.ref zL)) (hL : ∀ H, SqT K H zL (lens.map V.int)) (z_sum : mg "sum" = none) : FnOk P w K mg base CX0 (k + 1) f fd ["year", "month", "number"] spDayOf := by
  refine F.ok scDayOf (fun vs H Q E h => ?_) (fun cdv A outer s H vs Q E hr h => ?_)
  · obtain ⟨y, n, i, rfl, _⟩ := h
    rfl
  · obtain ⟨y, n, i, rfl, hi, y0, n1, n2, out⟩ := h
    refine ⟨_, (pss_cons (ps_set (i := 3) scDayOf.nd rfl (Or.inl rfl) (pe_cal c_month_length hr (by rfl) (pa_cons (pv 1) pa_nil)))
      (pss_cons (ps_if (PW.pt (pw_or (pt_cmpR op_lt (pv 0) pe_int (nomark _)) (pw_or (pt_cmpR op_lt (pv 2) pe_int (nomark _)) (pw_or1 (pt_cmpR op_gt (pv 2) (pv 3) (nomark _)))))) (pss_one ps_never) pss_nil)
      (pss_one (ps_ret (pe_op op_sub (pe_op op_add (pe_op op_add (pe_op op_mulA (pe_glob (v := .int 365) (by rfl) m_DAYS_OF_YEAR ⟨_, rfl⟩) (pv 0)) (pe_callB (cr_sumT rfl) (by rfl) z_sum (by decide +kernel) (pa_cons (pe_slice sl_tup (pe_glob (v := .ref zL) (by rfl) m_LENGTHS rfl) po_none (po_some (pe_op op_sub (pv 1) pe_int))) pa_nil))) (pv 2)) pe_int))))), ?_⟩
    refine ⟨_, rfl, i, hi, rfl, ?_⟩
    refine ⟨_, rfl, _, _, rfl, rfl, _, rfl, ?_⟩
    rw [decide_eq_false (show ¬ y < 0 by omega)]
    refine iteF ?_
    refine ⟨_, rfl, _, _, rfl, rfl, _, rfl, ?_⟩
    rw [decide_eq_false (show ¬ n < 1 by omega)]
    refine iteF ?_
    refine ⟨_, rfl, _, rfl, _, _, rfl, rfl, _, rfl, ?_⟩
    rw [decide_eq_false (show ¬ mlen i < n by omega)]
    refine iteF ?_
    refine ⟨_, rfl, _, _, rfl, rfl, mulL (by decide), ?_⟩
    refine ⟨_, rfl, _, _, rfl, rfl, _, rfl, zL, _, rfl, hL H, not_whole i hi, fun p np => ?_⟩
    rw [cut_lens (K := K) i hi]
    refine ⟨p, lens.take i, rfl, SqT.of upd_same, _, _, rfl, rfl, _, rfl, _, _, rfl, rfl, _, _, rfl, rfl, ?_⟩
    exact out _ (Same.new np)
theorem ok_dayofX {f : Addr} {fd : FuncData} {k : Nat} {C : Addr} (F : Fun K "day_of" "day_of" sDayOf f fd) (c0 : Cal P w K mg base k "month_length" ["month"] spMLen) (c : CalX P w K mg base k "month_length" ["month"] (spR (fun vs => ∃ m : Int, vs = [.int m] ∧ ¬ (1 ≤ m ∧ m ≤ 12)) 1 C)) (EC : ErrC K mg "InvalidDay" C) : FnOk P w K mg base (L2.CX P w) (k + 1) f fd ["year", "month", "number"] (spR (fun vs => ∃ y m n : Int, vs = [.int y, .int m, .int n] ∧ ¬ (0 ≤ y ∧ 1 ≤ m ∧ m ≤ 12 ∧ 1 ≤ n ∧ n ≤ mlen (m - 1).toNat)) 3 C) := by
  refine F.okX scDayOf (fun vs H Q E h => h.1) (fun cdv A outer s H vs Q E hr h => ?_)
  obtain ⟨_, ⟨y, m, n, rfl, hb⟩, out⟩ := h
  by_cases hm : 1 ≤ m ∧ m ≤ 12
  · obtain ⟨i, hi, rfl⟩ : ∃ i : Nat, i < 12 ∧ m = (i : Int) + 1 := ⟨(m - 1).toNat, by omega, by omega⟩
    rw [show ((i : Int) + 1 - 1).toNat = i by omega] at hb
    refine ⟨_, pss_cons (ps_set (i := 3) scDayOf.nd rfl (Or.inl rfl) (pe_cal c0 hr (by rfl) (pa_cons (pv 1) pa_nil))) (pss_cons (ps_if (PW.pt (pw_or (pt_cmpR op_lt (pv 0) pe_int (nomark _)) (pw_or (pt_cmpR op_lt (pv 2) pe_int (nomark _)) (pw_or1 (pt_cmpR op_gt (pv 2) (pv 3) (nomark _)))))) (pss_one (ps_raise rfl (takes_of rfl rfl rfl rfl) (pmk_own0 PySem.F.excBase_ValueError EC.ex EC.g EC.kp (raises_own EC.sb EC.ty) (by rfl)))) pss_nil) pss_never), ?_⟩
    refine ⟨_, rfl, i, hi, rfl, ?_⟩
    refine ⟨_, rfl, _, _, rfl, rfl, _, rfl, ite2 (fun _ => iteT (out none H (Same.refl H))) (fun z => ?_)⟩
    have z1 : ¬ y < 0 := fun q => z (decide_eq_true q)
    refine ⟨_, rfl, _, _, rfl, rfl, _, rfl, ite2 (fun _ => iteT (out none H (Same.refl H))) (fun z => ?_)⟩
    have z2 : ¬ n < 1 := fun q => z (decide_eq_true q)
    exact ⟨_, rfl, _, rfl, _, _, rfl, rfl, _, rfl, ite2 (fun _ => out none H (Same.refl H)) (fun z3 => absurd (decide_eq_true (show mlen i < n by omega)) z3)⟩
  · refine ⟨_, pss_cons (ps_set (i := 3) scDayOf.nd rfl (Or.inl rfl) (pe_calX c hr (by rfl) (passes_call (takes_of rfl rfl rfl rfl) (fun _ _ _ _ h => h)) (pa_cons (pv 1) pa_nil))) pss_never, ?_⟩
    exact ⟨_, rfl, rfl, ⟨m, rfl, hm⟩, out⟩
abbrev sAddM : Stmt := topS 13
theorem scAddM : FnScope ["day", "count", "year", "month", "number", "months"] ["day", "count"] (defScope sAddM) := ⟨rfl, rfl, rfl, by decide +kernel, rfl, by decide +kernel, by decide +kernel⟩
abbrev sSched : Stmt := topS 14
theorem scSched : FnScope ["start", "end", "months", "days", "day", "count"] ["start", "end", "months"] (defScope sSched) := ⟨rfl, rfl, rfl, by decide +kernel, rfl, by decide +kernel, by decide +kernel⟩
theorem ok_addm {f : Addr} {fd : FuncData} {k : Nat} {t12 : Tok} (F : Fun K "add_months" "add_months" sAddM f fd) (c_date_of : Cal P w K mg base k "date_of" ["day"] spDateOf) (c_day_of : Cal P w K mg base k "day_of" ["year", "month", "number"] spDayOf) (c_month_length : Cal P w K mg base k "month_length" ["month"] spMLen) (m_MONTHS_OF_YEAR : mg "MONTHS_OF_YEAR" = some (.int 12 t12)) (z_min : mg "min" = none) : FnOk P w K mg base CX0 (k + 1) f fd ["day", "count"] spAddM := by
  refine F.ok scAddM (fun vs H Q E h => ?_) (fun cdv A outer s H vs Q E hr h => ?_)
  · obtain ⟨d, c, rfl, _⟩ := h
    rfl
  · obtain ⟨day, c, rfl, d0, c0, out⟩ := h
    refine ⟨_, (pss_cons (ps_if (pt_cmpR op_lt (pv 1) pe_int (nomark _)) (pss_one ps_never) pss_nil)
      (pss_cons (ps_asg (pe_cal c_date_of hr (by rfl) (pa_cons (pv 0) pa_nil)) (pg_tup rfl (pgs_cons (pg_name (i := 2) scAddM.nd rfl (Or.inl rfl)) (pgs_cons (pg_name (i := 3) scAddM.nd rfl (Or.inl rfl)) (pgs_cons (pg_name (i := 4) scAddM.nd rfl (Or.inl rfl)) pgs_nil)))))
      (pss_cons (ps_set (i := 5) scAddM.nd rfl (Or.inl rfl) (pe_op op_add (pe_op op_sub (pe_op op_add (pe_op op_mulA (pe_glob (v := .int 12) (by rfl) m_MONTHS_OF_YEAR ⟨_, rfl⟩) (pv 2)) (pv 3)) pe_int) (pv 1)))
      (pss_cons (ps_set (i := 3) scAddM.nd rfl (Or.inl rfl) (pe_op op_add (pe_op op_mod (pv 5) (pe_glob (v := .int 12) (by rfl) m_MONTHS_OF_YEAR ⟨_, rfl⟩)) pe_int))
      (pss_one (ps_ret (pe_cal c_day_of hr (by rfl) (pa_cons (pe_op op_fdivA (pv 5) (pe_glob (v := .int 12) (by rfl) m_MONTHS_OF_YEAR ⟨_, rfl⟩)) (pa_cons (pv 3) (pa_cons (pe_callB (call_min2 rfl) (by rfl) z_min (by decide +kernel) (pa_cons (pv 4) (pa_cons (pe_cal c_month_length hr (by rfl) (pa_cons (pv 3) pa_nil)) pa_nil))) pa_nil)))))))))), ?_⟩
    refine ⟨_, rfl, _, _, rfl, rfl, _, rfl, ?_⟩
    rw [decide_eq_false (show ¬ c < 0 by omega)]
    refine iteF ?_
    refine ⟨_, rfl, day, rfl, d0, fun t H1 y i n s1 ht hd => ?_⟩
    refine ⟨t, [_, _, _], rfl, SqT.of ht, rfl, _, [_, _], rfl, _, [_], rfl, _, [], rfl, rfl, ?_⟩
    have hy := hd.y0 d0
    have hi := hd.hi
    have eM : 12 * y + ((i : Int) + 1) - 1 + c = mon day + c := by rw [hd.mon]; omega
    refine st_set (i := 5) (H := H1) (v := .int (mon day + c)) (ei_is (ei_add (ei_sub (ei_add (ei_mul ei_c (ei_var (i := 2) rfl) (mulL (by decide))) (ei_var (i := 3) rfl)) ei_c) (ei_var (i := 1) rfl)) (congrArg V.int eM)) (Same.refl H1) fun H2 e2 => ?_
    have em : ((mon day + c) % 12 + 1) = (((mon day + c) % 12).toNat : Int) + 1 := by rw [Int.toNat_of_nonneg (Int.emod_nonneg _ (by decide))]
    refine st_set (i := 3) (v := .int ((((mon day + c) % 12).toNat : Int) + 1)) (ei_is (ei_add (ei_mod (ei_var (i := 5) rfl) ei_c (by decide)) ei_c) (congrArg V.int em)) e2 fun H3 e3 => ?_
    have ld := lat_date day c
    have hn : num day = n := hd.num
    have m0 : 0 ≤ mon day := by rw [hd.mon]; omega
    refine ei_dayof (H := H3) (n := mn (num day) (ml (mon day + c))) (ei_is (ei_fdiv (ei_var (i := 5) rfl) ei_c ⟨by decide, by decide⟩) (congrArg V.int (Int.fdiv_eq_ediv_of_nonneg _ (by decide)))) (ei_var (i := 3) rfl) (ei_min (ei_is (ei_var (i := 4) rfl) (congrArg V.int hn.symm)) (ei_mlen (ei_var (i := 3) rfl) ld.hi)) ld.hi (by omega) ld.n1 ld.n2 H3 (Same.refl H3) _ fun H4 e4 => ?_
    rw [← ld.e]
    exact out H4 ((s1.trans e3).trans e4)
theorem ok_sched {f : Addr} {fd : FuncData} {k : Nat} (F : Fun K "schedule" "schedule" sSched f fd) (c_add_months : Cal P w K mg base k "add_months" ["day", "count"] spAddM) : FnOk P w K mg base CX0 (k + 1) f fd ["start", "end", "months"] spSched := by
  refine F.ok scSched (fun vs H Q E h => ?_) (fun cdv A outer s H vs Q E hr h => ?_)
  · obtain ⟨a, b, c, rfl, _⟩ := h
    rfl
  · obtain ⟨a, b, m, rfl, a0, ab, bb, m1, mb, out⟩ := h
    refine ⟨_, (pss_cons (ps_if (PW.pt (pw_or (pt_cmpR op_lt (pv 0) pe_int (nomark _)) (pw_or (pt_cmpR op_ge (pv 0) (pv 1) (nomark _)) (pw_or1 (pt_cmpR op_lt (pv 2) pe_int (nomark _)))))) (pss_one ps_never) pss_nil)
      (pss_cons (ps_set (i := 3) scSched.nd rfl (Or.inl rfl) (pe_lst pa_nil))
      (pss_cons (ps_set (i := 4) scSched.nd rfl (Or.inl rfl) (pv 0))
      (pss_cons (ps_set (i := 5) scSched.nd rfl (Or.inl rfl) pe_int)
      (pss_cons (ps_while PassesOwn.never (pt_cmpR op_lt (pv 4) (pv 1) (nomark _)) (pss_cons (ps_expr (pe_bm PySem.F.plainAttrs_list PySem.F.slot_list_append PySem.F.type_list_append mt_append (pv 3) (pa_cons (pv 4) pa_nil)))
      (pss_cons (ps_set (i := 5) scSched.nd rfl (Or.inl rfl) (pe_op op_add (pv 5) (pv 2)))
      (pss_one (ps_set (i := 4) scSched.nd rfl (Or.inl rfl) (pe_cal c_add_months hr (by rfl) (pa_cons (pv 0) (pa_cons (pv 5) pa_nil))))))))
      (pss_one (ps_ret (pe_lst (StX.pa_star (pv 3) (pa_cons (pv 1) pa_nil)))))))))), ?_⟩
    refine st_no (H := H) (et_or (et_is (et_lt (ei_var (i := 0) rfl) ei_c) (decide_eq_false (by omega))) (et_or (et_is (et_ge (ei_var (i := 0) rfl) (ei_var (i := 1) rfl)) (decide_eq_false (by omega))) (et_is (et_lt (ei_var (i := 2) rfl) ei_c) (decide_eq_false (by omega))))) (Same.refl H) fun H1 e1 => ?_
    refine ⟨Nat.zero_le _, fun L nL => ⟨_, rfl, ?_⟩⟩
    refine ⟨fun mm σ H' => ∃ t : Nat, mm = (b - lat a (m * (t : Int))).toNat ∧ (∀ j : Nat, j < t → lat a (m * (j : Int)) < b) ∧ σ = [some (.int a), some (.int b), some (.int m), some (.ref L), some (.int (lat a (m * (t : Int)))), some (.int (m * (t : Int)))] ∧ H' L = some (.lst ((days0 a m t).map V.int)) ∧ Same H1 H', ⟨_, 0, rfl, fun j hj => absurd hj (Nat.not_lt_zero _), ?_, upd_same, Same.new nL⟩, ?_⟩
    · rw [show m * ((0 : Nat) : Int) = 0 by simp, lat_zero]
      rfl
    rintro mm σ H2 ⟨t, rfl, hlo, rfl, hL, hs⟩
    refine ⟨_, rfl, _, rfl, _, _, rfl, rfl, _, rfl, ite2 (fun h => ?_) (fun h => ?_)⟩
    · have h := of_decide_eq_true h
      have hc : m * (t : Int) + m = m * ((t + 1 : Nat) : Int) := by rw [Int.natCast_succ, Int.mul_add, Int.mul_one]
      have hlt := lat_lt a (a := m * (t : Int)) (b := m * ((t + 1 : Nat) : Int)) (by omega)
      have htb : (t : Int) ≤ 2000 := by
        have := lat_ge (s := a) m1 t
        omega
      refine ⟨fun σ' H' => σ' = [some (.int a), some (.int b), some (.int m), some (.ref L), some (.int (lat a (m * ((t + 1 : Nat) : Int)))), some (.int (m * ((t + 1 : Nat) : Int)))] ∧ H' L = some (.lst ((days0 a m (t + 1)).map V.int)) ∧ Same H1 H', fun σ' H' hN => ⟨_, ?_, t + 1, rfl, fun j hj => ?_, hN.1, hN.2.1, hN.2.2⟩, ?_⟩
      · omega
      · rcases Nat.lt_or_ge j t with q | q
        · exact hlo j q
        · have : j = t := by omega
          subst this
          exact h
      · refine ⟨_, rfl, ?_⟩
        have e3 : Same H1 (upd H2 L (.lst ((days0 a m (t + 1)).map V.int))) := fun x o hx => by
          rw [upd_ne (fun q => by rw [q, nL] at hx; cases hx)]
          exact hs x o hx
        refine ⟨.inl ⟨rfl, _, SqL.of hL⟩, _, rfl, L, _, _, rfl, rfl, hL, ?_, ?_⟩
        · rw [List.length_map, days0_len, sizeLine_eq]
          omega
        rw [show (days0 a m t).map V.int ++ [V.int (lat a (m * (t : Int)))] = (days0 a m (t + 1)).map V.int by rw [days0_succ, List.map_append]; rfl]
        dsimp only [tSeq]
        refine st_set (i := 5) (H := upd H2 L (.lst ((days0 a m (t + 1)).map V.int))) (v := .int (m * ((t + 1 : Nat) : Int))) (ei_is (ei_add (ei_var (i := 5) rfl) (ei_var (i := 2) rfl)) (congrArg V.int hc)) (Same.refl _) fun H4 e4 => ?_
        refine st_set (i := 4) (ei_addm (ei_var (i := 0) rfl) (ei_var (i := 5) rfl) a0 (Int.mul_nonneg (by omega) (by omega))) e4 fun H5 e5 => ?_
        exact ⟨rfl, e5 _ _ upd_same, e3.trans e5⟩
    · have h : ¬ lat a (m * (t : Int)) < b := fun q => h (decide_eq_true q)
      have ok : SchedOk a b m t := ⟨hlo, by omega⟩
      refine ⟨_, rfl, L, _, rfl, .inr (SqL.of hL), _, rfl, ?_, fun p np => ?_⟩
      · have := ok.bd m1 ab
        rw [List.length_append, List.length_map, days0_len, sizeLine_eq]
        simp
        omega
      · refine out p _ t ((e1.trans hs).trans (Same.new np)) ok ?_
        rw [sched, List.map_append]
        exact upd_same
abbrev sInit : Stmt := inClass (topS 3) 0
theorem scInit : FnScope ["self", "word"] ["self", "word"] (defScope sInit) := ⟨rfl, rfl, rfl, by decide +kernel, rfl, by decide +kernel, by decide +kernel⟩
def spInit (K : PySem.W.Frag) (C : Addr) : Sp := fun vs H Q _ => ∃ (a : Addr) (z : Str), vs = [.ref a, .str z] ∧ OexC K C ∧ PySem.W.findIn K (.ref C) "word" = some none ∧ H a = some (exo a C none) ∧ ∀ dx, H dx = none → dx ≠ a → Q .non (upd (upd H dx (exd dx [("word", .str z)])) a (exo a C (some dx)))
theorem ok_init {f C : Addr} {fd : FuncData} {k : Nat} (F : Fun K "__init__" "InvalidWord.__init__" sInit f fd) : FnOk P w K mg base CX0 (k + 1) f fd ["self", "word"] (spInit K C) := by
  refine F.ok scInit (fun vs H Q E h => ?_) (fun cdv A outer s H vs Q E hr h => ?_)
  · obtain ⟨a, z, rfl, _⟩ := h
    rfl
  · obtain ⟨a, z, rfl, T, hno, ha, out⟩ := h
    refine ⟨_, pss_one (ps_ost (pv 0) (pv 1)), ?_⟩
    exact ⟨_, rfl, _, rfl, a, C, rfl, T, hno, .inl ⟨ha, fun dx n ne => out dx n ne⟩⟩
/-- what the written part says of the class of a wrong word -/
structure WordC (K : PySem.W.Frag) (mg : Str → Option Value) (C fI : Addr) (fd : FuncData) : Prop where
  g : mg "InvalidWord" = some (.ref C)
  T : OexC K C
  hno : PySem.W.findIn K (.ref C) "word" = some none
  iC : PySem.W.findIn K (.ref C) "__init__" = some (some (.ref fI))
  tI : PySem.W.typeIn K (.ref fI) = some (.type "function")
  F : Fun K "__init__" "InvalidWord.__init__" sInit fI fd
  b : Binds K fd ["self", "word"] []
abbrev sFraction : Stmt := topS 17
theorem scFraction : FnScope ["p", "q", "divisor"] ["p", "q"] (defScope sFraction) := ⟨rfl, rfl, rfl, by decide +kernel, rfl, by decide +kernel, by decide +kernel⟩
theorem ok_fraction {f : Addr} {fd : FuncData} {k : Nat} (F : FunD K "fraction" "fraction" (defArgs sFraction) (defBody sFraction) (defScope sFraction) [.int 1] [] f fd) (m_gcd : mg "gcd" = some (.builtin "math.gcd")) : FnOk P w K mg base CX0 (k + 1) f fd ["p", "q"] spFrac := by
  refine F.ok scFraction (fun vs H Q E h => ?_) (fun cdv A outer s H vs Q E hr h => ?_)
  · obtain ⟨a, b, rfl, _⟩ := h
    rfl
  · obtain ⟨p, q, rfl, q0, hq, out⟩ := h
    refine ⟨_, (pss_cons (ps_if (pt_cmpR op_eq (pv 1) pe_int (nomark _)) (pss_one ps_never) pss_nil)
      (pss_cons (ps_set (i := 2) scFraction.nd rfl (Or.inl rfl) (pe_callBfun cr_gcd (by rfl) m_gcd (pa_cons (pv 0) (pa_cons (pv 1) pa_nil))))
      (pss_cons (ps_if (pt_cmpR op_lt (pv 1) pe_int (nomark _)) (pss_one (ps_set (i := 2) scFraction.nd rfl (Or.inl rfl) (pe_un un_neg (pv 2)))) pss_nil)
      (pss_one (ps_ret (pe_tup (pa_cons (pe_op op_fdivA (pv 0) (pv 2)) (pa_cons (pe_op op_fdivA (pv 1) (pv 2)) pa_nil)))))))), ?_⟩
    have hg := gcd_pos p q q0
    have hgb : ((Nat.gcd p.natAbs q.natAbs : Nat) : Int).natAbs < 2 ^ 9000 := by
      rw [Int.natAbs_natCast]
      exact Nat.lt_of_le_of_lt (Nat.gcd_le_right _ (by omega)) hq
    have en := frac_num p q q0
    have ed := frac_den p q q0
    refine ⟨_, rfl, rfl, _, rfl, ite2 (fun h0 => absurd (V.int.inj (of_decide_eq_true h0)) q0) (fun h0 => ?_)⟩
    refine ⟨_, rfl, _, rfl, _, _, rfl, ?_⟩
    repeat walk_at "rd"
    refine ite2 (fun h1 => ?_) (fun h1 => ?_)
    · have h1' : q < 0 := of_decide_eq_true h1
      rw [if_pos h1'] at en ed
      repeat walk_at "rd"
      refine ⟨⟨by omega, by rw [Int.natAbs_neg]; exact hgb⟩, ?_⟩
      repeat walk_at "rd"
      refine ⟨⟨by omega, by rw [Int.natAbs_neg]; exact hgb⟩, by show 2 ≤ sizeLine; decide, fun t ht => ?_⟩
      refine out t _ (Same.new ht) ht (upd_same.trans ?_)
      show some (HO.tup [.int (p.fdiv _), .int (q.fdiv _)]) = some (HO.tup [.int _, .int _])
      rw [en, ed]
    · have h1' : ¬ q < 0 := fun z => h1 (decide_eq_true z)
      rw [if_neg h1'] at en ed
      repeat walk_at "rd"
      refine ⟨⟨by omega, hgb⟩, ?_⟩
      repeat walk_at "rd"
      refine ⟨⟨by omega, hgb⟩, by show 2 ≤ sizeLine; decide, fun t ht => ?_⟩
      refine out t _ (Same.new ht) ht (upd_same.trans ?_)
      show some (HO.tup [.int (p.fdiv _), .int (q.fdiv _)]) = some (HO.tup [.int _, .int _])
      rw [en, ed]
abbrev sPlus : Stmt := topS 18
theorem scPlus : FnScope ["a", "b"] ["a", "b"] (defScope sPlus) := ⟨rfl, rfl, rfl, by decide +kernel, rfl, by decide +kernel, by decide +kernel⟩
theorem ok_plus {f : Addr} {fd : FuncData} {k : Nat} (F : Fun K "plus" "plus" sPlus f fd) (c_fraction : Cal P w K mg base k "fraction" ["p", "q"] spFrac) : FnOk P w K mg base CX0 (k + 1) f fd ["a", "b"] (spOp (fun r s => r + s) fun _ _ => True) := by
  refine F.ok scPlus (fun vs H Q E h => ?_) (fun cdv A outer s H vs Q E hr h => ?_)
  · obtain ⟨a, b, r, s, rfl, _⟩ := h
    rfl
  · obtain ⟨a, b, r, s, rfl, ha, hb, zr, zs, _, out⟩ := h
    refine ⟨_, (pss_one (ps_ret (pe_cal c_fraction hr (by rfl) (pa_cons (pe_op op_add (pe_op op_mulA (pe_ix ix_tup (pv 0) pe_int (fun _ _ => rfl)) (pe_ix ix_tup (pv 1) pe_int (fun _ _ => rfl))) (pe_op op_mulA (pe_ix ix_tup (pv 1) pe_int (fun _ _ => rfl)) (pe_ix ix_tup (pv 0) pe_int (fun _ _ => rfl)))) (pa_cons (pe_op op_mulA (pe_ix ix_tup (pv 0) pe_int (fun _ _ => rfl)) (pe_ix ix_tup (pv 1) pe_int (fun _ _ => rfl))) pa_nil))))), ?_⟩
    repeat walk_at "rd"
    refine ⟨mulZ zr.nn zs.dd, ?_⟩
    repeat walk_at "rd"
    refine ⟨mulZ zs.nn zr.dd, ?_⟩
    repeat walk_at "rd"
    refine ⟨mulZ zr.dd zs.dd, ?_⟩
    refine ⟨_, _, rfl, Int.mul_ne_zero (den_ne r) (den_ne s), lt9 (pow_lt zr.dd zs.dd) (by decide), fun t H' sm hn ht => ?_⟩
    rw [add_div] at ht
    exact out t H' sm hn ht
abbrev sMinus : Stmt := topS 19
theorem scMinus : FnScope ["a", "b"] ["a", "b"] (defScope sMinus) := ⟨rfl, rfl, rfl, by decide +kernel, rfl, by decide +kernel, by decide +kernel⟩
theorem ok_minus {f : Addr} {fd : FuncData} {k : Nat} (F : Fun K "minus" "minus" sMinus f fd) (c_fraction : Cal P w K mg base k "fraction" ["p", "q"] spFrac) : FnOk P w K mg base CX0 (k + 1) f fd ["a", "b"] (spOp (fun r s => r - s) fun _ _ => True) := by
  refine F.ok scMinus (fun vs H Q E h => ?_) (fun cdv A outer s H vs Q E hr h => ?_)
  · obtain ⟨a, b, r, s, rfl, _⟩ := h
    rfl
  · obtain ⟨a, b, r, s, rfl, ha, hb, zr, zs, ho, out⟩ := h
    refine ⟨_, (pss_one (ps_ret (pe_cal c_fraction hr (by rfl) (pa_cons (pe_op op_sub (pe_op op_mulA (pe_ix ix_tup (pv 0) pe_int (fun _ _ => rfl)) (pe_ix ix_tup (pv 1) pe_int (fun _ _ => rfl))) (pe_op op_mulA (pe_ix ix_tup (pv 1) pe_int (fun _ _ => rfl)) (pe_ix ix_tup (pv 0) pe_int (fun _ _ => rfl)))) (pa_cons (pe_op op_mulA (pe_ix ix_tup (pv 0) pe_int (fun _ _ => rfl)) (pe_ix ix_tup (pv 1) pe_int (fun _ _ => rfl))) pa_nil))))), ?_⟩
    repeat walk_at "rd"
    refine ⟨mulZ zr.nn zs.dd, ?_⟩
    repeat walk_at "rd"
    refine ⟨mulZ zs.nn zr.dd, ?_⟩
    repeat walk_at "rd"
    refine ⟨mulZ zr.dd zs.dd, ?_⟩
    refine ⟨_, _, rfl, Int.mul_ne_zero (den_ne r) (den_ne s), lt9 (pow_lt zr.dd zs.dd) (by decide), fun t H' sm hn ht => ?_⟩
    rw [sub_div] at ht
    exact out t H' sm hn ht
abbrev sTimes : Stmt := topS 20
theorem scTimes : FnScope ["a", "b"] ["a", "b"] (defScope sTimes) := ⟨rfl, rfl, rfl, by decide +kernel, rfl, by decide +kernel, by decide +kernel⟩
theorem ok_times {f : Addr} {fd : FuncData} {k : Nat} (F : Fun K "times" "times" sTimes f fd) (c_fraction : Cal P w K mg base k "fraction" ["p", "q"] spFrac) : FnOk P w K mg base CX0 (k + 1) f fd ["a", "b"] (spOp (fun r s => r * s) fun _ _ => True) := by
  refine F.ok scTimes (fun vs H Q E h => ?_) (fun cdv A outer s H vs Q E hr h => ?_)
  · obtain ⟨a, b, r, s, rfl, _⟩ := h
    rfl
  · obtain ⟨a, b, r, s, rfl, ha, hb, zr, zs, ho, out⟩ := h
    refine ⟨_, (pss_one (ps_ret (pe_cal c_fraction hr (by rfl) (pa_cons (pe_op op_mulA (pe_ix ix_tup (pv 0) pe_int (fun _ _ => rfl)) (pe_ix ix_tup (pv 1) pe_int (fun _ _ => rfl))) (pa_cons (pe_op op_mulA (pe_ix ix_tup (pv 0) pe_int (fun _ _ => rfl)) (pe_ix ix_tup (pv 1) pe_int (fun _ _ => rfl))) pa_nil))))), ?_⟩
    repeat walk_at "rd"
    refine ⟨mulZ zr.nn zs.nn, ?_⟩
    repeat walk_at "rd"
    refine ⟨mulZ zr.dd zs.dd, ?_⟩
    refine ⟨_, _, rfl, Int.mul_ne_zero (den_ne r) (den_ne s), lt9 (pow_lt zr.dd zs.dd) (by decide), fun t H' sm hn ht => ?_⟩
    rw [mul_div] at ht
    exact out t H' sm hn ht
abbrev sOver : Stmt := topS 21
theorem scOver : FnScope ["a", "b"] ["a", "b"] (defScope sOver) := ⟨rfl, rfl, rfl, by decide +kernel, rfl, by decide +kernel, by decide +kernel⟩
theorem ok_over {f : Addr} {fd : FuncData} {k : Nat} (F : Fun K "over" "over" sOver f fd) (c_fraction : Cal P w K mg base k "fraction" ["p", "q"] spFrac) : FnOk P w K mg base CX0 (k + 1) f fd ["a", "b"] (spOp (fun r s => r / s) fun _ s => s.num ≠ 0) := by
  refine F.ok scOver (fun vs H Q E h => ?_) (fun cdv A outer s H vs Q E hr h => ?_)
  · obtain ⟨a, b, r, s, rfl, _⟩ := h
    rfl
  · obtain ⟨a, b, r, s, rfl, ha, hb, zr, zs, ho, out⟩ := h
    refine ⟨_, (pss_one (ps_ret (pe_cal c_fraction hr (by rfl) (pa_cons (pe_op op_mulA (pe_ix ix_tup (pv 0) pe_int (fun _ _ => rfl)) (pe_ix ix_tup (pv 1) pe_int (fun _ _ => rfl))) (pa_cons (pe_op op_mulA (pe_ix ix_tup (pv 0) pe_int (fun _ _ => rfl)) (pe_ix ix_tup (pv 1) pe_int (fun _ _ => rfl))) pa_nil))))), ?_⟩
    repeat walk_at "rd"
    refine ⟨mulZ zr.nn zs.dd, ?_⟩
    repeat walk_at "rd"
    refine ⟨mulZ zr.dd zs.nn, ?_⟩
    refine ⟨_, _, rfl, Int.mul_ne_zero (den_ne r) ho, lt9 (pow_lt zr.dd zs.nn) (by decide), fun t H' sm hn ht => ?_⟩
    rw [div_div] at ht
    exact out t H' sm hn ht
abbrev sPart : Stmt := topS 24
theorem scPart : FnScope ["count", "start", "end", "difference"] ["count", "start", "end"] (defScope sPart) := ⟨rfl, rfl, rfl, by decide +kernel, rfl, by decide +kernel, by decide +kernel⟩
abbrev sNumberOf : Stmt := topS 27
theorem scNumberOf : FnScope ["count", "day", "year", "month", "number"] ["count", "day"] (defScope sNumberOf) := ⟨rfl, rfl, rfl, by decide +kernel, rfl, by decide +kernel, by decide +kernel⟩
theorem ok_numberof {f : Addr} {fd : FuncData} {k : Nat} (F : Fun K "_number_of" "_number_of" sNumberOf f fd) (c_date_of : Cal P w K mg base k "date_of" ["day"] spDateOf) (c_month_length : Cal P w K mg base k "month_length" ["month"] spMLen) (c_fraction : Cal P w K mg base k "fraction" ["p", "q"] spFrac) (c_fraction1 : CalD P w K mg base k "fraction" ["p", "q"] [.int 1] spFrac) (c_plus : Cal P w K mg base k "plus" ["a", "b"] (spOp (fun r s => r + s) fun _ _ => True)) (z_min : mg "min" = none) : FnOk P w K mg base CX0 (k + 1) f fd ["count", "day"] (spNum numP) := by
  refine F.ok scNumberOf (fun vs H Q E h => ?_) (fun cdv A outer s H vs Q E hr h => ?_)
  · obtain ⟨c, d, rfl, _⟩ := h
    rfl
  · obtain ⟨c, day, rfl, hc, d0, d1, out⟩ := h
    refine ⟨_, (pss_cons (ps_if (pt_cmpR op_eq (pv 0) pe_str (nomark _)) (pss_one (ps_ret (pe_calD c_fraction1 hr (by rfl) (pa_cons (pv 1) pa_nil)))) pss_nil)
      (pss_cons (ps_asg (pe_cal c_date_of hr (by rfl) (pa_cons (pv 1) pa_nil)) (pg_tup rfl (pgs_cons (pg_name (i := 2) scNumberOf.nd rfl (Or.inl rfl)) (pgs_cons (pg_name (i := 3) scNumberOf.nd rfl (Or.inl rfl)) (pgs_cons (pg_name (i := 4) scNumberOf.nd rfl (Or.inl rfl)) pgs_nil)))))
      (pss_cons (ps_if (pt_cmpR op_eq (pv 0) pe_str (nomark _)) (pss_one (ps_ret (pe_calD c_fraction1 hr (by rfl) (pa_cons (pe_op op_add (pe_op op_add (pe_op op_mulA pe_int (pv 2)) (pe_op op_mulA pe_int (pv 3))) (pe_callB (call_min2 rfl) (by rfl) z_min (by decide +kernel) (pa_cons (pv 4) (pa_cons pe_int pa_nil)))) pa_nil)))) pss_nil)
      (pss_one (ps_ret (pe_cal c_plus hr (by rfl) (pa_cons (pe_calD c_fraction1 hr (by rfl) (pa_cons (pe_op op_add (pe_op op_mulA pe_int (pv 2)) (pv 3)) pa_nil)) (pa_cons (pe_cal c_fraction hr (by rfl) (pa_cons (pe_op op_sub (pv 4) pe_int) (pa_cons (pe_cal c_month_length hr (by rfl) (pa_cons (pv 3) pa_nil)) pa_nil))) pa_nil)))))))), ?_⟩
    have hs := sz_num (c := c) d0 d1
    have hmz := mon_sz d0 d1
    refine st_if (H := H) (b := decide (V.str c = V.str "fixed")) (et_eqV rfl (ei_var (i := 0) rfl) ei_c) (Same.refl H) (fun hb H2 e2 => ?_) (fun hb H2 e2 => ?_)
    · have hb : c = "fixed" := V.str.inj (of_decide_eq_true hb)
      refine eq_frac1 (H := H2) (p := day) (ei_var (i := 1) rfl) H2 (Same.refl H2) _ fun p H3 e3 hp => out p H3 (e2.trans e3) ?_
      unfold numP
      rw [if_pos hb]
      exact hp
    · have hb : ¬ c = "fixed" := fun q => of_decide_eq_false hb (congrArg V.str q)
      refine ⟨_, rfl, day, rfl, d0, fun t H3 y i n s1 ht hd => ?_⟩
      refine ⟨t, [_, _, _], rfl, SqT.of ht, rfl, _, [_, _], rfl, _, [_], rfl, _, [], rfl, rfl, ?_⟩
      have hn : num day = n := hd.num
      have hm : mon day = 12 * y + (i : Int) := hd.mon
      have hy := hd.y0 d0
      have hi := hd.hi
      dsimp only [gName, tSeq]
      refine st_if (H := H3) (b := decide (V.str c = V.str "thirty")) (et_eqV rfl (ei_var (i := 0) rfl) ei_c) (Same.refl H3) (fun hb2 H4 e4 => ?_) (fun hb2 H4 e4 => ?_)
      · have hb2 : c = "thirty" := V.str.inj (of_decide_eq_true hb2)
        refine eq_frac1 (H := H4) (p := 30 * mon day + 30 + mn (num day) 30) (ei_is (ei_add (ei_add (ei_mul ei_c (ei_var (i := 2) rfl) (mulL (by decide))) (ei_mul ei_c (ei_var (i := 3) rfl) (mulL (by decide)))) (ei_min (ei_var (i := 4) rfl) ei_c)) (congrArg V.int (by rw [hn, hm]; omega))) H4 (Same.refl H4) _ fun p H5 e5 hp => out p H5 ((e2.trans s1).trans (e4.trans e5)) ?_
        unfold numP
        rw [if_neg hb, if_pos hb2]
        exact hp
      · have hb2 : ¬ c = "thirty" := fun q => of_decide_eq_false hb2 (congrArg V.str q)
        have hl := ml_bd (mon day)
        have e1 : numP c day = Rat.divInt (mon day + 1) 1 + Rat.divInt (num day - 1) (ml (mon day)) := by
          unfold numP
          rw [if_neg hb, if_neg hb2]
        have hml : ml (mon day) = mlen i := by rw [hm]; exact (fsm_of y i hi).2
        have hnb := num_bd day
        refine (eq_op (f := fun r s => r + s) (ok := fun _ _ => True) (H := H4) (eq_frac1 (p := mon day + 1) (ei_is (ei_add (ei_mul ei_c (ei_var (i := 2) rfl) (mulL (by decide))) (ei_var (i := 3) rfl)) (congrArg V.int (by rw [hm]; omega)))) (eq_frac (p := num day - 1) (q := ml (mon day)) (ei_is (ei_sub (ei_var (i := 4) rfl) ei_c) (congrArg V.int (by rw [hn]))) (ei_is (ei_mlen (ei_var (i := 3) rfl) hi) (congrArg V.int hml.symm)) (by omega) (Nat.lt_of_lt_of_le (show (ml (mon day)).natAbs < 2 ^ 6 by omega) (Nat.pow_le_pow_right (by decide) (by decide)))) ((sz_int (n := 42) (by omega) (by decide)).mono (by decide)) ((sz_div (n := 6) (by omega) (by omega) (by omega)).mono (by decide)) trivial) H4 (Same.refl H4) _ fun p H5 e5 hp => out p H5 ((e2.trans s1).trans (e4.trans e5)) ?_
        rw [e1]
        exact hp
def MissD (K : PySem.W.Frag) (w : World) (a : Addr) (z : Str) : Prop := ∃ es n, K.lookup a = some ⟨.type "dict", none, .dict es n, #[]⟩ ∧ PySem.W.KeysLit w.params es.toList ∧ PySem.W.nsIn K a z = some none
theorem ok_part {f zD : Addr} {fd : FuncData} {k : Nat} (F : Fun K "part" "part" sPart f fd) (c_number_of : Cal P w K mg base k "_number_of" ["count", "day"] (spNum numP)) (c_minus : Cal P w K mg base k "minus" ["a", "b"] (spOp (fun r s => r - s) fun _ _ => True)) (c_over : Cal P w K mg base k "over" ["a", "b"] (spOp (fun r s => r / s) fun _ s => s.num ≠ 0)) (c_fraction1 : CalD P w K mg base k "fraction" ["p", "q"] [.int 1] spFrac) (m_DIVISORS : mg "DIVISORS" = some (.ref zD)) (hs : (zD == sysModules) = false) (hD : ∀ c ∈ counts, KDct K w zD c (.int (dvs c))) : FnOk P w K mg base CX0 (k + 1) f fd ["count", "start", "end"] spPart := by
  refine F.ok scPart (fun vs H Q E h => ?_) (fun cdv A outer s H vs Q E hr h => ?_)
  · obtain ⟨c, a, b, rfl, _⟩ := h
    rfl
  · obtain ⟨c, a, b, rfl, hc, a0, ab, b1, out⟩ := h
    refine ⟨_, (pss_cons (ps_if (pt_cmpR op_notInKd (pv 0) (pe_glob (v := .ref zD) (by rfl) m_DIVISORS rfl) (by rfl)) (pss_one ps_never) pss_nil)
      (pss_cons (ps_if (PW.pt (pw_or (pt_cmpR op_lt (pv 1) pe_int (nomark _)) (pw_or1 (pt_cmpR op_gt (pv 1) (pv 2) (nomark _))))) (pss_one ps_never) pss_nil)
      (pss_cons (ps_set (i := 3) scPart.nd rfl (Or.inl rfl) (pe_cal c_minus hr (by rfl) (pa_cons (pe_cal c_number_of hr (by rfl) (pa_cons (pv 0) (pa_cons (pv 2) pa_nil))) (pa_cons (pe_cal c_number_of hr (by rfl) (pa_cons (pv 0) (pa_cons (pv 1) pa_nil))) pa_nil))))
      (pss_one (ps_ret (pe_cal c_over hr (by rfl) (pa_cons (pv 3) (pa_cons (pe_calD c_fraction1 hr (by rfl) (pa_cons (pe_ix ix_kdict (pe_glob (v := .ref zD) (by rfl) m_DIVISORS rfl) (pv 0) (fun _ _ => rfl)) pa_nil)) pa_nil)))))))), ?_⟩
    refine ⟨_, rfl, zD, c, rfl, rfl, hs, .inl ⟨⟨_, hD c hc⟩, _, rfl, iteF ?_⟩⟩
    refine st_no (H := H) (et_or (et_is (et_lt (ei_var (i := 1) rfl) ei_c) (decide_eq_false (by omega))) (et_is (et_gt (ei_var (i := 1) rfl) (ei_var (i := 2) rfl)) (decide_eq_false (by omega)))) (Same.refl H) fun H1 e1 => ?_
    have z1 := sz_num (c := c) (show 0 ≤ b by omega) b1
    have z2 := sz_num (c := c) a0 (show a < 2 ^ 40 by omega)
    dsimp only [gName, tSeq]
    refine st_setQ (i := 3) (r := numP c b - numP c a) (eq_op (f := fun r s => r - s) (ok := fun _ _ => True) (H := H1) (eq_num (ei_var (i := 0) rfl) (ei_var (i := 2) rfl) hc (by omega) b1) (eq_num (ei_var (i := 0) rfl) (ei_var (i := 1) rfl) hc a0 (by omega)) (z1.mono (by decide)) (z2.mono (by decide)) trivial) (Same.refl H1) fun p H2 e2 hp => ?_
    have hd0 : (Rat.divInt (dvs c) 1).num ≠ 0 := fun q => by
      rw [one_div, Rat.num_intCast] at q
      have := dvs_pos c
      omega
    refine (eq_op (f := fun r s => r / s) (ok := fun _ s => s.num ≠ 0) (H := H2) (eq_var (i := 3) rfl hp) (eq_frac1 (p := dvs c) ?G) ((sz_sub2 z1 z2).mono (by decide)) ((sz_int (n := 10) (dvs_sz c) (by decide)).mono (by decide)) hd0) H2 (Same.refl H2) _ fun t H3 e3 ht => out t H3 ((e1.trans e2).trans e3) ?_
    case G => exact fun H4 e4 Q' q' => ⟨_, rfl, _, _, _, rfl, rfl, hD c hc, q' H4 (Same.refl H4)⟩
    rw [one_div] at ht
    exact ht
theorem ok_partXW {f zD C fI : Addr} {fd fdI : FuncData} {k : Nat} (F : Fun K "part" "part" sPart f fd) (m_DIVISORS : mg "DIVISORS" = some (.ref zD)) (hs : (zD == sysModules) = false) (WC : WordC K mg C fI fdI) : FnOk P w K mg base (L2.CX P w) (k + 3) f fd ["count", "start", "end"] (spR (fun vs => ∃ (c : Str) (a b : Int), vs = [.str c, .int a, .int b] ∧ MissD K w zD c) 3 C) := by
  refine F.okX scPart (fun vs H Q E h => h.1) (fun cdv A outer s H vs Q E hr h => ?_)
  obtain ⟨_, ⟨z, x, y, rfl, hz⟩, out⟩ := h
  have G : FnOk P w K mg base CX0 (k + 1) fI fdI ["self", "word"] (spInit K C) := ok_init (k := k) WC.F
  refine ⟨_, pss_cons (ps_if (pt_cmpR op_notInKd (pv 0) (pe_glob (v := .ref zD) (by rfl) m_DIVISORS rfl) (by rfl)) (pss_one (ps_raise rfl (takes_of rfl rfl rfl rfl) (pmk_oex (dvs := []) WC.T WC.iC WC.tI G hr WC.b .nil pass0 (by rfl) WC.g (pa_cons (pv 0) pa_nil)))) pss_nil) pss_never, ?_⟩
  refine ⟨_, rfl, zD, z, rfl, rfl, hs, .inr ⟨hz, _, rfl, iteT ?_⟩⟩
  refine ⟨_, rfl, by show 1 ≤ 1000; decide, fun a na => ⟨a, z, rfl, WC.T, WC.hno, upd_same, fun dx nx ne => ⟨rfl, dx, [("word", .str z)], upd_same, ?_, ?_, ?_⟩⟩⟩
  · rw [upd_ne ne, upd_same]
  · rw [upd_ne ne] at nx
    exact nx
  · rw [upd_ne ne] at nx
    refine out _ _ fun b o hb => ?_
    have b1 : b ≠ a := fun q => by rw [q, na] at hb; cases hb
    have b2 : b ≠ dx := fun q => by rw [q, nx] at hb; cases hb
    rw [upd_ne b2, del_ne b1, upd_ne b1, upd_ne b2, upd_ne b1]
    exact hb
theorem ok_partXD {f zD C : Addr} {fd : FuncData} {k : Nat} (F : Fun K "part" "part" sPart f fd) (EC : ErrC K mg "InvalidDay" C) (m_DIVISORS : mg "DIVISORS" = some (.ref zD)) (hs : (zD == sysModules) = false) (hD : ∀ c ∈ counts, KDct K w zD c (.int (dvs c))) : FnOk P w K mg base (L2.CX P w) (k + 1) f fd ["count", "start", "end"] (spR (fun vs => ∃ (c : Str) (a b : Int), vs = [.str c, .int a, .int b] ∧ c ∈ counts ∧ (a < 0 ∨ b < a)) 3 C) := by
  refine F.okX scPart (fun vs H Q E h => h.1) (fun cdv A outer s H vs Q E hr h => ?_)
  obtain ⟨_, ⟨c, a, b, rfl, hc, hb⟩, out⟩ := h
  refine ⟨_, pss_cons (ps_if (pt_cmpR op_notInKd (pv 0) (pe_glob (v := .ref zD) (by rfl) m_DIVISORS rfl) (by rfl)) pss_never pss_nil) (pss_cons (ps_if (PW.pt (pw_or (pt_cmpR op_lt (pv 1) pe_int (nomark _)) (pw_or1 (pt_cmpR op_gt (pv 1) (pv 2) (nomark _))))) (pss_one (ps_raise rfl (takes_of rfl rfl rfl rfl) (pmk_own0 PySem.F.excBase_ValueError EC.ex EC.g EC.kp (raises_own EC.sb EC.ty) (by rfl)))) pss_nil) pss_never), ?_⟩
  refine ⟨_, rfl, zD, c, rfl, rfl, hs, .inl ⟨⟨_, hD c hc⟩, _, rfl, iteF ?_⟩⟩
  refine ⟨_, rfl, _, _, rfl, rfl, _, rfl, ite2 (fun _ => iteT (out none H (Same.refl H))) (fun z => ?_)⟩
  have z1 : ¬ a < 0 := fun q => z (decide_eq_true q)
  exact ⟨_, rfl, _, rfl, _, _, rfl, rfl, _, rfl, ite2 (fun _ => out none H (Same.refl H)) (fun z2 => absurd (decide_eq_true (show b < a by omega)) z2)⟩
end
end Cs
set_option maxHeartbeats 4000000
namespace Cs
open PySem PySem.Spec PyProof.Rows L2
local macro_rules | `(tactic| walk_at "rd") => `(tactic| (first
  | (refine ⟨_, rfl, ?_⟩)
  | (refine ⟨_, _, rfl, rfl, ?_⟩)
  | (refine .inl ⟨_, rfl, ?_⟩)
  | (refine .inr ⟨_, rfl, ?_⟩)
  | (refine ⟨_, _, _, _, rfl, rfl, SqL.of upd_same, rfl, ?_⟩)
  | (refine ⟨_, _, _, _, rfl, rfl, upd_same, rfl, ?_⟩)
  | (refine ⟨_, ?xs, _, ?v, rfl, rfl, ?h, ?x, ?_⟩; (case h => first | exact SqL.of (by assumption) | exact SqT.of (by assumption) | assumption); (case x => first | rfl | exact atI_nat (j := 0) rfl | exact atI_nat (j := 1) rfl))))
local macro_rules | `(tactic| walk_at "isi") => `(tactic| (first
  | (refine ⟨_, _, _, _, _, rfl, .ty _, .base (.int _), kit_ty kit_it, ?_⟩)
  | (refine ⟨_, _, _, _, _, rfl, .ty _, .base (.int _), kit_ty kit_ib, ?_⟩)
  | (refine ⟨_, _, _, _, _, rfl, .ty _, .base (.int _), kit_ty kit_ii, ?_⟩)
  | (refine ⟨_, _, _, _, _, rfl, .ty _, .base (.bl _), kit_ty kit_bt, ?_⟩)
  | (refine ⟨_, _, _, _, _, rfl, .ty _, .base (.bl _), kit_ty kit_bb, ?_⟩)
  | (refine ⟨_, _, _, _, _, rfl, .ty _, .base (.bl _), kit_ty kit_bi, ?_⟩)))
section
variable {P : Program} {w : World} {K : PySem.W.Frag} {mg : Str → Option Value} {base : Heap}
abbrev sInterest : Stmt := topS 25
theorem scInterest : FnScope ["principal", "rate", "count", "start", "end"] ["principal", "rate", "count", "start", "end"] (defScope sInterest) := ⟨rfl, rfl, rfl, by decide +kernel, rfl, by decide +kernel, by decide +kernel⟩
abbrev sInterests : Stmt := topS 26
theorem scInterests : FnScope ["principal", "rate", "count", "days", "start", "end"] ["principal", "rate", "count", "days"] (defScope sInterests) := ⟨rfl, rfl, rfl, by decide +kernel, rfl, by decide +kernel, by decide +kernel⟩
theorem ok_interest {f : Addr} {fd : FuncData} {k : Nat} (F : Fun K "interest" "interest" sInterest f fd) (c_times : Cal P w K mg base k "times" ["a", "b"] (spOp (fun r s => r * s) fun _ _ => True)) (c_part : Cal P w K mg base k "part" ["count", "start", "end"] spPart) : FnOk P w K mg base CX0 (k + 1) f fd ["principal", "rate", "count", "start", "end"] spInt := by
  refine F.ok scInterest (fun vs H Q E h => ?_) (fun cdv A outer s H vs Q E hr h => ?_)
  · obtain ⟨p, q, r, s, c, x, y, rfl, _⟩ := h
    rfl
  · obtain ⟨p, q, r, s, c, x, y, rfl, hp, hq, zr, zs, cc, x0, xy, y1, out⟩ := h
    refine ⟨_, (pss_one (ps_ret (pe_cal c_times hr (by rfl) (pa_cons (pe_cal c_times hr (by rfl) (pa_cons (pv 0) (pa_cons (pv 1) pa_nil))) (pa_cons (pe_cal c_part hr (by rfl) (pa_cons (pv 2) (pa_cons (pv 3) (pa_cons (pv 4) pa_nil)))) pa_nil))))), ?_⟩
    have z1 := sz_mul2 zr zs
    have z2 := sz_prt (c := c) (s := x) (e := y) x0 (by omega) (by omega) y1
    exact (eq_op (f := fun r s => r * s) (ok := fun _ _ => True) (H := H) (eq_op (f := fun r s => r * s) (ok := fun _ _ => True) (eq_var (i := 0) rfl hp) (eq_var (i := 1) rfl hq) (zr.mono (by decide)) (zs.mono (by decide)) trivial) (eq_part (ei_var (i := 2) rfl) (ei_var (i := 3) rfl) (ei_var (i := 4) rfl) cc x0 xy y1) (z1.mono (by decide)) (z2.mono (by decide)) trivial) H (Same.refl H) _ fun t H2 e2 ht => out t H2 e2 ht
theorem ok_interestX {f : Addr} {fd : FuncData} {k : Nat} {C : Addr} {bad : Str → Int → Int → Prop} (F : Fun K "interest" "interest" sInterest f fd) (c_times : Cal P w K mg base k "times" ["a", "b"] (spOp (fun r s => r * s) fun _ _ => True)) (c : CalX P w K mg base k "part" ["count", "start", "end"] (spR (fun vs => ∃ (c : Str) (a b : Int), vs = [.str c, .int a, .int b] ∧ bad c a b) 3 C)) : FnOk P w K mg base (L2.CX P w) (k + 1) f fd ["principal", "rate", "count", "start", "end"] (spRH (aInt bad) 5 C) := by
  refine F.okX scInterest (fun vs H Q E h => h.1) (fun cdv A outer s H vs Q E hr h => ?_)
  obtain ⟨_, ⟨p, q, r, s, cc, x, y, rfl, hp, hq, zr, zs, hb⟩, out⟩ := h
  refine ⟨_, (pss_one (ps_ret (pe_cal c_times hr (by rfl) (pa_cons (pe_cal c_times hr (by rfl) (pa_cons (pv 0) (pa_cons (pv 1) pa_nil))) (pa_cons (pe_calX c hr (by rfl) (passes_call (takes_of rfl rfl rfl rfl) (fun _ _ _ _ h => h)) (pa_cons (pv 2) (pa_cons (pv 3) (pa_cons (pv 4) pa_nil)))) pa_nil))))), ?_⟩
  exact (eq_op (f := fun r s => r * s) (ok := fun _ _ => True) (H := H) (eq_var (i := 0) rfl hp) (eq_var (i := 1) rfl hq) (zr.mono (by decide)) (zs.mono (by decide)) trivial) H (Same.refl H) _ fun t H2 e2 ht => ⟨_, rfl, _, rfl, _, rfl, rfl, ⟨cc, x, y, rfl, hb⟩, fun dd H3 e3 => out dd H3 (e2.trans e3)⟩
theorem cut_tail0 (xs : List V) : cutV xs (some 1) none = xs.drop 1 := by
  rcases xs with _ | ⟨x, xs⟩
  · unfold cutV
    simp
  · exact cut_tail _ (by simp)
theorem intr_at {a : Rat} {c : Str} {ns : List Int} {i : Nat} {x y : Int} (hx : ns[i]? = some x) (hy : ns[i + 1]? = some y) : intr a c ns i = a * prt c x y := by
  unfold intr
  rw [List.getD_eq_getElem?_getD, List.getD_eq_getElem?_getD, hx, hy]
  rfl
theorem ok_interests {f : Addr} {fd : FuncData} {k : Nat} (F : Fun K "interests" "interests" sInterests f fd) (c_interest : Cal P w K mg base k "interest" ["principal", "rate", "count", "start", "end"] spInt) (z_zip : mg "zip" = none) : FnOk P w K mg base CX0 (k + 1) f fd ["principal", "rate", "count", "days"] spInts := by
  refine F.ok scInterests (fun vs H Q E h => ?_) (fun cdv A outer s H vs Q E hr h => ?_)
  · obtain ⟨p, q, L, r, s, c, ns, rfl, _⟩ := h
    rfl
  · obtain ⟨p, q, L, r, s, c, ns, rfl, hp, hq, zr, zs, cc, hL, hn, hu, out⟩ := h
    refine ⟨_, (pss_one (ps_ret (pe_lc (own := [("start", 4), ("end", 5)]) (g := gTup K 2 (gCons (gName 4) (gCons (gName 5) gNil))) (tt := tYes) rfl scInterests.nd (pi_zip (by rfl) z_zip (pa_cons (pv 3) (pa_cons (pe_slice sl_list (pv 3) (po_some pe_int) po_none) pa_nil))) (blkOk_by (own := [("start", 4), ("end", 5)]) (N := ["principal", "rate", "count", "days", "start", "end"]) (sc := defScope sInterests) (by decide +kernel)) (fun _ _ _ _ _ => (pg_tup rfl (pgs_cons (pg_name (i := 4) scInterests.nd rfl (Or.inl rfl)) (pgs_cons (pg_name (i := 5) scInterests.nd rfl (Or.inl rfl)) pgs_nil)))) (fun _ _ _ _ _ => pts_nil) (fun _ _ _ _ _ => (pe_cal c_interest hr (by rfl) (pa_cons (pv 0) (pa_cons (pv 1) (pa_cons (pv 2) (pa_cons (pv 4) (pa_cons (pv 5) pa_nil)))))))))), ?_⟩
    refine ⟨_, rfl, _, rfl, _, rfl, L, _, rfl, SqL.of hL, fun M nM => ?_⟩
    rw [cut_tail0]
    have eM : Same H (upd H M (.lst ((ns.map V.int).drop 1))) := Same.new nM
    refine ⟨L, M, _, _, rfl, SqL.of (eM _ _ hL), SqL.of upd_same, fun D nD => ?_⟩
    generalize hB : upd H M (.lst ((ns.map V.int).drop 1)) = HB at nD eM ⊢
    have hM : HB M = some (.lst ((ns.map V.int).drop 1)) := by rw [← hB]; exact upd_same
    refine lc_it (walk_zip (xs := ns.map V.int) (ys := (ns.map V.int).drop 1) (n := ns.length - 1) ?_) (fun i H' => ∃ acc, H' D = some (.lst acc) ∧ Same HB H' ∧ QAt H' (intr (r * s) c ns) i acc) ⟨[], upd_same, Same.new nD, rfl, fun j hj => absurd hj (Nat.not_lt_zero _)⟩ (fun i H' _ ⟨_, _, s', _⟩ => ⟨SqL.of (s' _ _ (eM _ _ hL)), SqL.of (s' _ _ hM)⟩) ?_ ?_
    · rw [List.length_drop, List.length_map]
      omega
    · rintro i x H2 H3 hi ⟨acc, hD, s', hR⟩ ⟨t', x1, x2, rfl, hnn, rfl, g1, g2⟩
      have g1 : (ns.map V.int)[i]? = some x1 := g1
      have g2 : ((ns.map V.int).drop 1)[i]? = some x2 := g2
      rw [List.getElem?_drop, Nat.add_comm 1 i] at g2
      obtain ⟨x, rfl, hx⟩ := int_at g1
      obtain ⟨y, rfl, hy⟩ := int_at g2
      obtain ⟨x0, xy, y1⟩ := hu i x y hx hy
      refine ⟨t', [_, _], rfl, SqT.of upd_same, rfl, _, [_], rfl, _, [], rfl, rfl, rfl, ?_⟩
      dsimp only [tYes]
      rw [if_pos rfl]
      have e3 := Same.new (o := .tup [V.int x, V.int y]) hnn
      refine eq_int (H := upd H2 t' (.tup [V.int x, V.int y])) (eq_var (i := 0) rfl (e3 _ _ (s' _ _ (eM _ _ hp)))) (eq_var (i := 1) rfl (e3 _ _ (s' _ _ (eM _ _ hq)))) (ei_var (i := 2) rfl) (ei_var (i := 4) rfl) (ei_var (i := 5) rfl) zr zs cc x0 xy y1 _ (Same.refl _) _ fun t H4 e4 ht => ?_
      have e5 := e3.trans e4
      refine ⟨acc, e5 _ _ hD, Nat.lt_of_lt_of_le (show acc.length < 2000 by rw [hR.1]; omega) (by rw [sizeLine_eq]; decide), _, upd_same, ?_, ?_⟩
      · intro c o hc
        rw [upd_ne (fun q => by rw [q, nD] at hc; cases hc)]
        exact e5 _ _ (s' _ _ hc)
      · rw [← intr_at hx hy] at ht
        exact QAt.fill ((hR.same e5).snoc ht) (e5 _ _ hD)
    · rintro H' ⟨acc, hD, s', hR⟩
      exact out D acc H' (eM.trans s') hD hR
theorem ok_interestsX {f : Addr} {fd : FuncData} {k : Nat} {C : Addr} {bad : Str → Int → Int → Prop} (F : Fun K "interests" "interests" sInterests f fd) (c_interest : CalX P w K mg base k "interest" ["principal", "rate", "count", "start", "end"] (fun vs H Q E => spInt vs H Q E ∨ spRH (aInt bad) 5 C vs H Q E)) (z_zip : mg "zip" = none) : FnOk P w K mg base (L2.CX P w) (k + 1) f fd ["principal", "rate", "count", "days"] (spRH (aInts bad) 4 C) := by
  refine F.okX scInterests (fun vs H Q E h => h.1) (fun cdv A outer s H vs Q E hr h => ?_)
  obtain ⟨_, ⟨p, q, L, r, s, c, ns, i0, xb, yb, rfl, hp, hq, zr, zs, hL, hn, hxb, hyb, hbad, hu⟩, out⟩ := h
  refine ⟨_, (pss_one (ps_ret (pe_lcX (takes_of rfl rfl rfl rfl) rfl rfl (own := [("start", 4), ("end", 5)]) (g := gTup K 2 (gCons (gName 4) (gCons (gName 5) gNil))) (tt := tYes) rfl scInterests.nd (pi_zip (by rfl) z_zip (pa_cons (pv 3) (pa_cons (pe_slice sl_list (pv 3) (po_some pe_int) po_none) pa_nil))) (blkOk_by (own := [("start", 4), ("end", 5)]) (N := ["principal", "rate", "count", "days", "start", "end"]) (sc := defScope sInterests) (by decide +kernel)) (fun _ _ _ _ _ => (pg_tup rfl (pgs_cons (pg_name (i := 4) scInterests.nd rfl (Or.inl rfl)) (pgs_cons (pg_name (i := 5) scInterests.nd rfl (Or.inl rfl)) pgs_nil)))) (fun _ _ _ _ _ => pts_nil) (fun _ _ _ _ _ => (pe_calX c_interest hr (by rfl) air_passes (pa_cons (pv 0) (pa_cons (pv 1) (pa_cons (pv 2) (pa_cons (pv 4) (pa_cons (pv 5) pa_nil)))))))))), ?_⟩
  refine ⟨_, rfl, _, rfl, _, rfl, L, _, rfl, SqL.of hL, fun M nM => ?_⟩
  rw [cut_tail0]
  have eM : Same H (upd H M (.lst ((ns.map V.int).drop 1))) := Same.new nM
  refine ⟨L, M, _, _, rfl, SqL.of (eM _ _ hL), SqL.of upd_same, fun D nD => ?_⟩
  generalize hB : upd H M (.lst ((ns.map V.int).drop 1)) = HB at nD eM ⊢
  have hM : HB M = some (.lst ((ns.map V.int).drop 1)) := by rw [← hB]; exact upd_same
  have hlen : i0 + 1 < ns.length := (List.getElem?_eq_some_iff.mp hyb).1
  refine lc_it (walk_zip (xs := ns.map V.int) (ys := (ns.map V.int).drop 1) (n := ns.length - 1) ?_) (fun i H' => i ≤ i0 ∧ ∃ acc, H' D = some (.lst acc) ∧ Same HB H' ∧ acc.length = i) ⟨Nat.zero_le _, [], upd_same, Same.new nD, rfl⟩ (fun i H' _ ⟨_, _, _, s', _⟩ => ⟨SqL.of (s' _ _ (eM _ _ hL)), SqL.of (s' _ _ hM)⟩) ?_ ?_
  · rw [List.length_drop, List.length_map]
    omega
  · rintro i x H2 H3 hi ⟨hi0, acc, hD, s', hR⟩ ⟨t', x1, x2, rfl, hnn, rfl, g1, g2⟩
    have g1 : (ns.map V.int)[i]? = some x1 := g1
    have g2 : ((ns.map V.int).drop 1)[i]? = some x2 := g2
    rw [List.getElem?_drop, Nat.add_comm 1 i] at g2
    obtain ⟨x, rfl, hx⟩ := int_at g1
    obtain ⟨y, rfl, hy⟩ := int_at g2
    refine ⟨t', [_, _], rfl, SqT.of upd_same, rfl, _, [_], rfl, _, [], rfl, rfl, rfl, ?_⟩
    dsimp only [tYes]
    rw [if_pos rfl]
    have e3 := Same.new (o := .tup [V.int x, V.int y]) hnn
    refine ⟨_, rfl, _, rfl, _, rfl, _, rfl, _, rfl, ?_⟩
    rcases Nat.lt_or_eq_of_le hi0 with z | z
    · obtain ⟨cc, hgood⟩ := hu i z
      obtain ⟨x0, xy, y1⟩ := hgood x y hx hy
      refine .inl ⟨p, q, r, s, c, x, y, rfl, e3 _ _ (s' _ _ (eM _ _ hp)), e3 _ _ (s' _ _ (eM _ _ hq)), zr, zs, cc, x0, xy, y1, fun t H4 e4 ht => ?_⟩
      have e5 := e3.trans e4
      refine ⟨acc, e5 _ _ hD, Nat.lt_of_lt_of_le (show acc.length < 2000 by rw [hR]; omega) (by rw [sizeLine_eq]; decide), z, _, upd_same, ?_, by simp [hR]⟩
      intro c o hc
      rw [upd_ne (fun q => by rw [q, nD] at hc; cases hc)]
      exact e5 _ _ (s' _ _ hc)
    · subst z
      rw [hxb] at hx
      rw [hyb] at hy
      cases hx
      cases hy
      exact .inr ⟨rfl, ⟨p, q, r, s, c, xb, yb, rfl, e3 _ _ (s' _ _ (eM _ _ hp)), e3 _ _ (s' _ _ (eM _ _ hq)), zr, zs, hbad⟩, fun dd H4 e4 => out dd H4 (eM.trans (s'.trans (e3.trans e4)))⟩
  · rintro H' ⟨hi0, _⟩
    omega
end
end Cs
set_option maxHeartbeats 4000000
namespace Cs
open PySem PySem.Spec PyProof.Rows L2
local macro_rules | `(tactic| walk_at "rd") => `(tactic| (first
  | (refine ⟨_, rfl, ?_⟩)
  | (refine ⟨_, _, rfl, rfl, ?_⟩)
  | (refine .inl ⟨_, rfl, ?_⟩)
  | (refine .inr ⟨_, rfl, ?_⟩)
  | (refine ⟨_, _, _, _, rfl, rfl, SqL.of upd_same, rfl, ?_⟩)
  | (refine ⟨_, _, _, _, rfl, rfl, upd_same, rfl, ?_⟩)
  | (refine ⟨_, ?xs, _, ?v, rfl, rfl, ?h, ?x, ?_⟩; (case h => first | exact SqL.of (by assumption) | exact SqT.of (by assumption) | assumption); (case x => first | rfl | exact atI_nat (j := 0) rfl | exact atI_nat (j := 1) rfl))))
local macro_rules | `(tactic| walk_at "isi") => `(tactic| (first
  | (refine ⟨_, _, _, _, _, rfl, .ty _, .base (.int _), kit_ty kit_it, ?_⟩)
  | (refine ⟨_, _, _, _, _, rfl, .ty _, .base (.int _), kit_ty kit_ib, ?_⟩)
  | (refine ⟨_, _, _, _, _, rfl, .ty _, .base (.int _), kit_ty kit_ii, ?_⟩)
  | (refine ⟨_, _, _, _, _, rfl, .ty _, .base (.bl _), kit_ty kit_bt, ?_⟩)
  | (refine ⟨_, _, _, _, _, rfl, .ty _, .base (.bl _), kit_ty kit_bb, ?_⟩)
  | (refine ⟨_, _, _, _, _, rfl, .ty _, .base (.bl _), kit_ty kit_bi, ?_⟩)))
section
variable {P : Program} {w : World} {K : PySem.W.Frag} {mg : Str → Option Value} {base : Heap}
abbrev sState : Stmt := topS 29
theorem scState : FnScope ["script"] ["script"] (defScope sState) := ⟨rfl, rfl, rfl, by decide +kernel, rfl, by decide +kernel, by decide +kernel⟩
abbrev sDraw : Stmt := topS 30
theorem scDraw : FnScope ["state", "many", "value", "cell", "first"] ["state", "many"] (defScope sDraw) := ⟨rfl, rfl, rfl, by decide +kernel, rfl, by decide +kernel, by decide +kernel⟩
abbrev sLengths : Stmt := topS 38
theorem scLengths : FnScope [] [] (defScope sLengths) := ⟨rfl, rfl, rfl, by decide +kernel, rfl, by decide +kernel, by decide +kernel⟩
abbrev sLDate : Stmt := topS 39
theorem scLDate : FnScope ["day", "year", "rest", "lengths", "month"] ["day"] (defScope sLDate) := ⟨rfl, rfl, rfl, by decide +kernel, rfl, by decide +kernel, by decide +kernel⟩
abbrev sLDay : Stmt := topS 40
theorem scLDay : FnScope ["date"] ["date"] (defScope sLDay) := ⟨rfl, rfl, rfl, by decide +kernel, rfl, by decide +kernel, by decide +kernel⟩
abbrev sLBusiness : Stmt := topS 42
theorem scLBusiness : FnScope ["day"] ["day"] (defScope sLBusiness) := ⟨rfl, rfl, rfl, by decide +kernel, rfl, by decide +kernel, by decide +kernel⟩
theorem ok_state {f : Addr} {fd : FuncData} {k : Nat} (F : Fun K "_law_state" "_law_state" sState f fd) (z_list : mg "list" = none) : FnOk P w K mg base CX0 (k + 1) f fd ["script"] (spState K) := by
  refine F.ok scState (fun vs H Q E h => ?_) (fun cdv A outer s H vs Q E hr h => ?_)
  · obtain ⟨a, ns, rfl, _⟩ := h
    rfl
  · obtain ⟨a, ns, rfl, hS, q⟩ := h
    refine ⟨_, (pss_one (ps_ret (pe_lst (pa_cons (pe_callTy call_list_of (by rfl) z_list (by decide +kernel) (pa_cons (pv 0) pa_nil)) (pa_cons pe_int (pa_cons pe_int (pa_cons pe_int (pa_cons pe_int pa_nil)))))))), ?_⟩
    refine ⟨_, rfl, _, _, rfl, .inl hS, fun l hl => ?_⟩
    refine ⟨by show 5 ≤ sizeLine; decide, fun d hd => ?_⟩
    have hdl : d ≠ l := fun e => by rw [e, upd_same] at hd; cases hd
    have hd0 : H d = none := by rw [upd_ne hdl] at hd; exact hd
    refine q d _ ((Same.new hl).trans (Same.new hd)) hd0 ⟨l, ns, 0, 0, 1, 0, upd_same, .inl (.inl ?_), hdl.symm, Int.le_refl _⟩
    rw [upd_ne hdl.symm, upd_same]
theorem fst_bd (x : Int) : (x % 2147483647).natAbs < 2 ^ 64 := by
  have h1 := Int.emod_nonneg x (show (2147483647 : Int) ≠ 0 by decide)
  have h2 := Int.emod_lt_of_pos x (show (0 : Int) < 2147483647 by decide)
  omega
theorem ok_drawS {f : Addr} {fd : FuncData} {k : Nat} (F : Fun K "_law_draw" "_law_draw" sDraw f fd) (z_len : mg "len" = none) (z_int : mg "int" = none) : FnOk P w K mg base CX0 (k + 1) f fd ["state", "many"] (spDrawS K) := by
  refine F.ok scDraw (fun vs H Q E h => ?_) (fun cdv A outer s H vs Q E hr h => ?_)
  · obtain ⟨a, ns, rfl, _⟩ := h
    rfl
  · obtain ⟨d, m, rfl, m0, mb, ⟨l, ns, b, c, e, g, hd, hl, ne, b0⟩, q⟩ := h
    refine ⟨_, (pss_cons (ps_if (PW.pt (pw_and (pt_cmpR op_gt (pe_ix ix_list (pv 0) pe_int (fun _ _ => rfl)) pe_int (nomark _)) (pw_and1 (pt_cmpR op_gt (pe_ix ix_list (pv 0) pe_int (fun _ _ => rfl)) pe_int (nomark _))))) (pss_cons (ps_set (i := 2) scDraw.nd rfl (Or.inl rfl) (pe_op op_mod (pe_callTy call_int1 (by rfl) z_int (by decide +kernel) (pa_cons (pe_ix ix_list (pv 0) pe_int (fun _ _ => rfl)) pa_nil)) (pv 1)))
      (pss_cons (ps_asg (pe_op op_fdivA (pe_ix ix_list (pv 0) pe_int (fun _ _ => rfl)) (pv 1)) (pg_sub (pv 0) pe_int set_list))
      (pss_cons (ps_asg (pe_op op_sub (pe_ix ix_list (pv 0) pe_int (fun _ _ => rfl)) pe_int) (pg_sub (pv 0) pe_int set_list))
      (pss_one (ps_ret (pv 2)))))) pss_nil)
      (pss_cons (ps_set (i := 3) scDraw.nd rfl (Or.inl rfl) (pe_op op_add (pe_ix ix_list (pv 0) pe_int (fun _ _ => rfl)) (pe_op op_mulA pe_int (pe_ix ix_list (pv 0) pe_int (fun _ _ => rfl)))))
      (pss_cons (ps_if (pt_cmpR op_lt (pe_ix ix_list (pv 0) pe_int (fun _ _ => rfl)) (pe_callB call_len_seq (by rfl) z_len PySem.boot_len (pa_cons (pe_ix ix_list (pv 0) pe_int (fun _ _ => rfl)) pa_nil)) (nomark _)) (pss_one (ps_set (i := 3) scDraw.nd rfl (Or.inl rfl) (pe_ix ix_list (pe_ix ix_list (pv 0) pe_int (fun _ _ => rfl)) (pe_ix ix_list (pv 0) pe_int (fun _ _ => rfl)) (fun _ _ => rfl)))) pss_nil)
      (pss_cons (ps_asg (pe_op op_add (pe_ix ix_list (pv 0) pe_int (fun _ _ => rfl)) pe_int) (pg_sub (pv 0) pe_int set_list))
      (pss_cons (ps_if (pt_cmpR op_ge (pv 3) (pe_op op_pow pe_int pe_int) (nomark _)) (pss_cons (ps_asg (pe_op op_fdivA (pv 3) (pv 1)) (pg_sub (pv 0) pe_int set_list))
      (pss_cons (ps_asg pe_int (pg_sub (pv 0) pe_int set_list))
      (pss_one (ps_ret (pe_op op_mod (pe_callTy call_int1 (by rfl) z_int (by decide +kernel) (pa_cons (pv 3) pa_nil)) (pv 1)))))) pss_nil)
      (pss_cons (ps_set (i := 4) scDraw.nd rfl (Or.inl rfl) (pe_op op_mod (pe_callTy call_int1 (by rfl) z_int (by decide +kernel) (pa_cons (pe_op op_add (pe_op op_add (pe_op op_mulA (pv 3) pe_int) (pe_op op_mulA (pe_ix ix_list (pv 0) pe_int (fun _ _ => rfl)) pe_int)) (pe_ix ix_list (pv 0) pe_int (fun _ _ => rfl))) pa_nil)) pe_int))
      (pss_cons (ps_asg (pe_op op_mod (pe_callTy call_int1 (by rfl) z_int (by decide +kernel) (pa_cons (pe_op op_add (pe_op op_add (pe_op op_mulA (pv 4) pe_int) (pe_op op_mulA (pv 4) (pv 4))) pe_int) pa_nil)) pe_int) (pg_sub (pv 0) pe_int set_list))
      (pss_one (ps_ret (pe_op op_mod (pe_callTy call_int1 (by rfl) z_int (by decide +kernel) (pa_cons (pe_op op_fdivA (pe_ix ix_list (pv 0) pe_int (fun _ _ => rfl)) pe_int) pa_nil)) (pv 1))))))))))), ?_⟩
    have mb9 : m.natAbs < 2 ^ 9000 := Nat.lt_trans mb (Nat.pow_lt_pow_right (by decide) (by decide))
    have fin : ∀ z : Int, 0 ≤ z % m ∧ z % m < m := fun z => ⟨Int.emod_nonneg _ (by omega), Int.emod_lt_of_pos _ m0⟩
    repeat walk_at "rd"
    refine ite2 (fun h1 => ?_) (fun h1 => ?_)
    · repeat walk_at "rd"
      refine ite2 (fun h2 => ?_) (fun h2 => ?_)
      · repeat walk_at "rd"
        refine ⟨m0, ?_⟩
        repeat walk_at "rd"
        refine ⟨⟨by omega, mb9⟩, ?_⟩
        repeat walk_at "rd"
        exact q _ _ (fin _).1 (fin _).2 (But.upd.trans But.upd) (st5_of hl ne (But.upd.trans But.upd) upd_same b0)
      · repeat walk_at "rd"
        refine ⟨mulL (by decide), ?_⟩
        repeat walk_at "rd"
        refine ⟨_, _, rfl, .inl hl, ?_⟩
        repeat walk_at "rd"
        refine ite2 (fun h3 => ?_) (fun h3 => ?_)
        · repeat walk_at "rd"
          obtain ⟨z, hz⟩ := cell_at (ns := ns) b0 (by have := of_decide_eq_true h3; rw [List.length_map] at this; exact this)
          refine ⟨_, _, _, _, rfl, rfl, hl, hz, ?_⟩
          clear hz
          generalize hcell : (z : Int) = cell
          repeat walk_at "rd"
          refine ⟨⟨by decide, by decide, by decide⟩, ?_⟩
          repeat walk_at "rd"
          refine ite2 (fun h4 => ?_) (fun h4 => ?_)
          · repeat walk_at "rd"
            refine ⟨⟨by omega, mb9⟩, ?_⟩
            repeat walk_at "rd"
            refine ⟨m0, ?_⟩
            exact q _ _ (fin _).1 (fin _).2 ((But.upd.trans But.upd).trans But.upd) (st5_of hl ne ((But.upd.trans But.upd).trans But.upd) upd_same (show (0 : Int) ≤ b + 1 by omega))
          · repeat walk_at "rd"
            refine ⟨mulR (by decide), ?_⟩
            repeat walk_at "rd"
            refine ⟨mulR (by decide), ?_⟩
            repeat walk_at "rd"
            refine ⟨(show (0 : Int) < 2147483647 by decide), ?_⟩
            repeat walk_at "rd"
            refine ⟨mulR (by decide), ?_⟩
            repeat walk_at "rd"
            refine ⟨mulL (fst_bd _), ?_⟩
            repeat walk_at "rd"
            refine ⟨(show (0 : Int) < 2147483629 by decide), ?_⟩
            repeat walk_at "rd"
            refine ⟨⟨by decide, by decide⟩, ?_⟩
            repeat walk_at "rd"
            refine ⟨m0, ?_⟩
            exact q _ _ (fin _).1 (fin _).2 (But.upd.trans But.upd) (st5_of hl ne (But.upd.trans But.upd) upd_same (show (0 : Int) ≤ b + 1 by omega))
        · generalize hcell : (e + 7919 * b : Int) = cell
          repeat walk_at "rd"
          refine ⟨⟨by decide, by decide, by decide⟩, ?_⟩
          repeat walk_at "rd"
          refine ite2 (fun h4 => ?_) (fun h4 => ?_)
          · repeat walk_at "rd"
            refine ⟨⟨by omega, mb9⟩, ?_⟩
            repeat walk_at "rd"
            refine ⟨m0, ?_⟩
            exact q _ _ (fin _).1 (fin _).2 ((But.upd.trans But.upd).trans But.upd) (st5_of hl ne ((But.upd.trans But.upd).trans But.upd) upd_same (show (0 : Int) ≤ b + 1 by omega))
          · repeat walk_at "rd"
            refine ⟨mulR (by decide), ?_⟩
            repeat walk_at "rd"
            refine ⟨mulR (by decide), ?_⟩
            repeat walk_at "rd"
            refine ⟨(show (0 : Int) < 2147483647 by decide), ?_⟩
            repeat walk_at "rd"
            refine ⟨mulR (by decide), ?_⟩
            repeat walk_at "rd"
            refine ⟨mulL (fst_bd _), ?_⟩
            repeat walk_at "rd"
            refine ⟨(show (0 : Int) < 2147483629 by decide), ?_⟩
            repeat walk_at "rd"
            refine ⟨⟨by decide, by decide⟩, ?_⟩
            repeat walk_at "rd"
            refine ⟨m0, ?_⟩
            exact q _ _ (fin _).1 (fin _).2 (But.upd.trans But.upd) (st5_of hl ne (But.upd.trans But.upd) upd_same (show (0 : Int) ≤ b + 1 by omega))
    · repeat walk_at "rd"
      refine ⟨mulL (by decide), ?_⟩
      repeat walk_at "rd"
      refine ⟨_, _, rfl, .inl hl, ?_⟩
      repeat walk_at "rd"
      refine ite2 (fun h3 => ?_) (fun h3 => ?_)
      · repeat walk_at "rd"
        obtain ⟨z, hz⟩ := cell_at (ns := ns) b0 (by have := of_decide_eq_true h3; rw [List.length_map] at this; exact this)
        refine ⟨_, _, _, _, rfl, rfl, hl, hz, ?_⟩
        clear hz
        generalize hcell : (z : Int) = cell
        repeat walk_at "rd"
        refine ⟨⟨by decide, by decide, by decide⟩, ?_⟩
        repeat walk_at "rd"
        refine ite2 (fun h4 => ?_) (fun h4 => ?_)
        · repeat walk_at "rd"
          refine ⟨⟨by omega, mb9⟩, ?_⟩
          repeat walk_at "rd"
          refine ⟨m0, ?_⟩
          exact q _ _ (fin _).1 (fin _).2 ((But.upd.trans But.upd).trans But.upd) (st5_of hl ne ((But.upd.trans But.upd).trans But.upd) upd_same (show (0 : Int) ≤ b + 1 by omega))
        · repeat walk_at "rd"
          refine ⟨mulR (by decide), ?_⟩
          repeat walk_at "rd"
          refine ⟨mulR (by decide), ?_⟩
          repeat walk_at "rd"
          refine ⟨(show (0 : Int) < 2147483647 by decide), ?_⟩
          repeat walk_at "rd"
          refine ⟨mulR (by decide), ?_⟩
          repeat walk_at "rd"
          refine ⟨mulL (fst_bd _), ?_⟩
          repeat walk_at "rd"
          refine ⟨(show (0 : Int) < 2147483629 by decide), ?_⟩
          repeat walk_at "rd"
          refine ⟨⟨by decide, by decide⟩, ?_⟩
          repeat walk_at "rd"
          refine ⟨m0, ?_⟩
          exact q _ _ (fin _).1 (fin _).2 (But.upd.trans But.upd) (st5_of hl ne (But.upd.trans But.upd) upd_same (show (0 : Int) ≤ b + 1 by omega))
      · generalize hcell : (e + 7919 * b : Int) = cell
        repeat walk_at "rd"
        refine ⟨⟨by decide, by decide, by decide⟩, ?_⟩
        repeat walk_at "rd"
        refine ite2 (fun h4 => ?_) (fun h4 => ?_)
        · repeat walk_at "rd"
          refine ⟨⟨by omega, mb9⟩, ?_⟩
          repeat walk_at "rd"
          refine ⟨m0, ?_⟩
          exact q _ _ (fin _).1 (fin _).2 ((But.upd.trans But.upd).trans But.upd) (st5_of hl ne ((But.upd.trans But.upd).trans But.upd) upd_same (show (0 : Int) ≤ b + 1 by omega))
        · repeat walk_at "rd"
          refine ⟨mulR (by decide), ?_⟩
          repeat walk_at "rd"
          refine ⟨mulR (by decide), ?_⟩
          repeat walk_at "rd"
          refine ⟨(show (0 : Int) < 2147483647 by decide), ?_⟩
          repeat walk_at "rd"
          refine ⟨mulR (by decide), ?_⟩
          repeat walk_at "rd"
          refine ⟨mulL (fst_bd _), ?_⟩
          repeat walk_at "rd"
          refine ⟨(show (0 : Int) < 2147483629 by decide), ?_⟩
          repeat walk_at "rd"
          refine ⟨⟨by decide, by decide⟩, ?_⟩
          repeat walk_at "rd"
          refine ⟨m0, ?_⟩
          exact q _ _ (fin _).1 (fin _).2 (But.upd.trans But.upd) (st5_of hl ne (But.upd.trans But.upd) upd_same (show (0 : Int) ≤ b + 1 by omega))
theorem ok_lengths {f : Addr} {fd : FuncData} {k : Nat} (F : Fun K "_law_lengths" "_law_lengths" sLengths f fd) : FnOk P w K mg base CX0 (k + 1) f fd [] spLens := by
  refine F.ok scLengths (fun vs H Q E h => ?_) (fun cdv A outer s H vs Q E hr h => ?_)
  · obtain ⟨rfl, _⟩ := h
    rfl
  · obtain ⟨rfl, out⟩ := h
    refine ⟨_, (pss_one (ps_ret (pe_lst (pa_cons pe_int (pa_cons pe_int (pa_cons pe_int (pa_cons pe_int (pa_cons pe_int (pa_cons pe_int (pa_cons pe_int (pa_cons pe_int (pa_cons pe_int (pa_cons pe_int (pa_cons pe_int (pa_cons pe_int pa_nil))))))))))))))), ?_⟩
    exact ⟨by show 12 ≤ sizeLine; decide, fun l nl => out l _ (Same.new nl) nl upd_same⟩
theorem ok_ldate {f : Addr} {fd : FuncData} {k : Nat} (F : Fun K "_law_date" "_law_date" sLDate f fd) (c_law_lengths : Cal P w K mg base k "_law_lengths" [] spLens) (z_range : mg "range" = none) : FnOk P w K mg base CX0 (k + 1) f fd ["day"] spDateOf := by
  refine F.ok scLDate (fun vs H Q E h => ?_) (fun cdv A outer s H vs Q E hr h => ?_)
  · obtain ⟨d, rfl, _⟩ := h
    rfl
  · obtain ⟨day, rfl, d0, out⟩ := h
    refine ⟨_, (pss_cons (ps_set (i := 1) scLDate.nd rfl (Or.inl rfl) (pe_op op_fdivA (pv 0) pe_int))
      (pss_cons (ps_set (i := 2) scLDate.nd rfl (Or.inl rfl) (pe_op op_sub (pv 0) (pe_op op_mulA pe_int (pv 1))))
      (pss_cons (ps_set (i := 3) scLDate.nd rfl (Or.inl rfl) (pe_cal0 c_law_lengths hr (by rfl)))
      (pss_cons (ps_for PassesOwn.never rfl (pi_range1 rfl z_range (pa_cons pe_int pa_nil)) (pg_name (i := 4) scLDate.nd rfl (Or.inl rfl)) (pss_cons (ps_if (pt_cmpR op_lt (pv 2) (pe_ix ix_list (pv 3) (pv 4) (fun _ _ => rfl)) (nomark _)) (pss_one (ps_ret (pe_tup (pa_cons (pv 1) (pa_cons (pe_op op_add (pv 4) pe_int) (pa_cons (pe_op op_add (pv 2) pe_int) pa_nil)))))) pss_nil)
      (pss_one (ps_set (i := 2) scLDate.nd rfl (Or.inl rfl) (pe_op op_sub (pv 2) (pe_ix ix_list (pv 3) (pv 4) (fun _ _ => rfl)))))))
      (pss_one (ps_ret pe_non)))))), ?_⟩
    refine ⟨_, rfl, _, _, rfl, rfl, ⟨by decide, by decide⟩, ?_⟩
    refine ⟨_, rfl, _, rfl, _, _, rfl, rfl, mulL (by decide), _, _, rfl, rfl, ?_⟩
    refine ⟨rfl, fun l H1 s1 _ hl => ?_⟩
    have ey : day.fdiv 365 = day / 365 := Int.fdiv_eq_ediv_of_nonneg _ (by decide)
    have er : day - 365 * day.fdiv 365 = day % 365 := by rw [ey]; omega
    have r0 : 0 ≤ day % 365 := Int.emod_nonneg _ (by decide)
    have r1 : day % 365 < 365 := Int.emod_lt_of_pos _ (by decide)
    refine ⟨12, rfl, by decide, by decide, for_range (n := 12) (fun i σ H' => ∃ y4 : Option V, σ = [some (.int day), some (.int (day / 365)), some (.int (day % 365 - cum i)), some (.ref l), y4] ∧ H' = H1 ∧ cum i ≤ day % 365) ⟨none, ?_, rfl, r0⟩ ?_ ?_⟩
    · show [some (V.int day), some (V.int (day.fdiv 365)), some (V.int (day - 365 * day.fdiv 365)), some (V.ref l), none] = _
      rw [er, ey, cum_zero, Int.sub_zero]
    · rintro i σ H2 hi ⟨y4, rfl, rfl, hc⟩
      have hs := cum_succ i hi
      have ha : atI (lens.map V.int) (0 + (i : Int)) = some (.int (mlen i)) := by
        rw [Int.zero_add]
        exact atI_nat (lens_at i hi)
      refine ⟨_, rfl, _, rfl, _, rfl, _, _, _, _, rfl, rfl, SqL.of hl, ha, _, _, rfl, rfl, _, rfl, ite2 (fun h => ?_) (fun h => ?_)⟩
      · have h' : day % 365 - cum i < mlen i := of_decide_eq_true h
        refine ⟨_, rfl, _, rfl, _, _, rfl, rfl, _, rfl, _, _, rfl, rfl, by show 3 ≤ sizeLine; decide, fun t nt => ?_⟩
        refine out t _ (day / 365) i (day % 365 - cum i + 1) (s1.trans (Same.new nt)) (upd_same.trans ?_) ⟨hi, by omega, by omega, by omega⟩
        show some (HO.tup [.int (day / 365), .int (0 + (i : Int) + 1), .int (day % 365 - cum i + 1)]) = _
        rw [Int.zero_add]
        rfl
      · have h' : ¬ day % 365 - cum i < mlen i := fun z => h (decide_eq_true z)
        refine ⟨_, rfl, _, rfl, _, rfl, _, _, _, _, rfl, rfl, SqL.of hl, ha, _, _, rfl, rfl, some (.int (0 + (i : Int))), ?_, rfl, by omega⟩
        rw [show day % 365 - cum (i + 1) = day % 365 - cum i - mlen i by omega]
        rfl
    · rintro σ H2 ⟨y4, rfl, rfl, hc⟩
      rw [cum_all] at hc
      omega
theorem ok_lday {f : Addr} {fd : FuncData} {k : Nat} (F : Fun K "_law_day" "_law_day" sLDay f fd) (c_law_lengths : Cal P w K mg base k "_law_lengths" [] spLens) (z_sum : mg "sum" = none) : FnOk P w K mg base CX0 (k + 1) f fd ["date"] spLDay := by
  refine F.ok scLDay (fun vs H Q E h => ?_) (fun cdv A outer s H vs Q E hr h => ?_)
  · obtain ⟨t, y, n, i, rfl, _⟩ := h
    rfl
  · obtain ⟨t, y, n, i, rfl, hi, ht, out⟩ := h
    refine ⟨_, (pss_one (ps_ret (pe_op op_sub (pe_op op_add (pe_op op_add (pe_op op_mulA pe_int (pe_ix ix_tup (pv 0) pe_int (fun _ _ => rfl))) (pe_callB (cr_sum rfl) (by rfl) z_sum (by decide +kernel) (pa_cons (pe_slice sl_list (pe_cal0 c_law_lengths hr (by rfl)) po_none (po_some (pe_op op_sub (pe_ix ix_tup (pv 0) pe_int (fun _ _ => rfl)) pe_int))) pa_nil))) (pe_ix ix_tup (pv 0) pe_int (fun _ _ => rfl))) pe_int))), ?_⟩
    refine ⟨_, rfl, _, _, _, _, rfl, rfl, SqT.of ht, rfl, _, _, rfl, rfl, mulL (by decide), ?_⟩
    refine ⟨rfl, fun l H1 s1 _ hl => ?_⟩
    have ht1 := s1 _ _ ht
    refine ⟨_, rfl, _, _, _, _, rfl, rfl, SqT.of ht1, rfl, _, _, rfl, rfl, _, rfl, l, _, rfl, SqL.of hl, fun p np => ?_⟩
    rw [cut_lens (K := K) i hi]
    refine ⟨p, lens.take i, rfl, SqL.of upd_same, _, _, rfl, rfl, ?_⟩
    refine ⟨_, rfl, _, _, _, _, rfl, rfl, SqT.of (Same.new np _ _ ht1), rfl, _, _, rfl, rfl, _, _, rfl, rfl, ?_⟩
    exact out _ (s1.trans (Same.new np))
theorem ok_lbusiness {f : Addr} {fd : FuncData} {k : Nat} (F : Fun K "_law_is_business" "_law_is_business" sLBusiness f fd) : FnOk P w K mg base CX0 (k + 1) f fd ["day"] spLBusiness := by
  refine F.ok scLBusiness (fun vs H Q E h => ?_) (fun cdv A outer s H vs Q E hr h => ?_)
  · obtain ⟨d, rfl, _⟩ := h
    rfl
  · obtain ⟨day, rfl, out⟩ := h
    refine ⟨_, (pss_one (ps_ret (pe_cmpR op_lt (pe_op op_sub (pv 0) (pe_op op_mulA pe_int (pe_op op_fdivA (pv 0) pe_int))) pe_int (nomark _)))), ?_⟩
    refine ⟨_, rfl, _, rfl, _, _, rfl, rfl, ⟨by decide, by decide⟩, _, _, rfl, rfl, mulL (by decide), _, _, rfl, rfl, _, _, rfl, rfl, ?_⟩
    have e : decide (day - 7 * day.fdiv 7 < 5) = decide (day % 7 ≤ 4) := decide_eq_decide.mpr (by rw [Int.fdiv_eq_ediv_of_nonneg _ (by decide)]; omega)
    show Q (.bl (decide (day - 7 * day.fdiv 7 < 5))) H
    rw [e]
    exact out
end
end Cs
set_option maxHeartbeats 4000000
namespace Cs
open PySem PySem.Spec PyProof.Rows L2
local macro_rules | `(tactic| walk_at "rd") => `(tactic| (first
  | (refine ⟨_, rfl, ?_⟩)
  | (refine ⟨_, _, rfl, rfl, ?_⟩)
  | (refine .inl ⟨_, rfl, ?_⟩)
  | (refine .inr ⟨_, rfl, ?_⟩)
  | (refine ⟨_, _, _, _, rfl, rfl, SqL.of upd_same, rfl, ?_⟩)
  | (refine ⟨_, _, _, _, rfl, rfl, upd_same, rfl, ?_⟩)
  | (refine ⟨_, ?xs, _, ?v, rfl, rfl, ?h, ?x, ?_⟩; (case h => first | exact SqL.of (by assumption) | exact SqT.of (by assumption) | assumption); (case x => first | rfl | exact atI_nat (j := 0) rfl | exact atI_nat (j := 1) rfl))))
local macro_rules | `(tactic| walk_at "isi") => `(tactic| (first
  | (refine ⟨_, _, _, _, _, rfl, .ty _, .base (.int _), kit_ty kit_it, ?_⟩)
  | (refine ⟨_, _, _, _, _, rfl, .ty _, .base (.int _), kit_ty kit_ib, ?_⟩)
  | (refine ⟨_, _, _, _, _, rfl, .ty _, .base (.int _), kit_ty kit_ii, ?_⟩)
  | (refine ⟨_, _, _, _, _, rfl, .ty _, .base (.bl _), kit_ty kit_bt, ?_⟩)
  | (refine ⟨_, _, _, _, _, rfl, .ty _, .base (.bl _), kit_ty kit_bb, ?_⟩)
  | (refine ⟨_, _, _, _, _, rfl, .ty _, .base (.bl _), kit_ty kit_bi, ?_⟩)))
section
variable {P : Program} {w : World} {K : PySem.W.Frag} {mg : Str → Option Value} {base : Heap}
abbrev sRefuses : Stmt := topS 47
theorem scRefuses : FnScope ["call", "arguments", "wanted"] ["call", "arguments", "wanted"] (defScope sRefuses) := ⟨rfl, rfl, rfl, by decide +kernel, rfl, by decide +kernel, by decide +kernel⟩
theorem ok_refuses {f : Addr} {fd : FuncData} {k : Nat} {CD CW CE : Addr} (F : Fun K "_law_refuses" "_law_refuses" sRefuses f fd) (T : Clauses K mg CD CW CE) (z_len : mg "len" = none) : FnOk P w K mg base CX0 (k + 1) f fd ["call", "arguments", "wanted"] (spRefusesH P w K mg base k CD CW) := by
  refine F.ok scRefuses (fun vs H Q E h => ?_) (fun cdv A outer s H vs Q E hr h => ?_)
  · obtain ⟨g, L, args, C, wd, rfl, _⟩ := h
    rfl
  · obtain ⟨g, L, args, C, wd, rfl, hL, hn, ⟨gd, ps, A, n, G, kp, b, hA, hl⟩, hw, out⟩ := h
    match args, hL, hn, hA, hl with
    | [x, y, z, u], hL, hn, hA, hl =>
      refine ⟨_, pss_cons (ps_try_many (l := [(.ref CD, tsW "day"), (.ref CW, tsW "word"), (.ref CE, tsF)]) (Wout := fun _ _ _ _ => False) rfl rfl takes0 (fun W pn xe tk _ => (pss_one (ps_if (pt_cmpR op_eq (pe_callB (call_lenK (K := K) rfl) (by rfl) z_len PySem.boot_len (pa_cons (pv 1) pa_nil)) pe_int (nomark _)) pss_never (pss_one (ps_if (pt_cmpR op_eq (pe_callB (call_lenK (K := K) rfl) (by rfl) z_len PySem.boot_len (pa_cons (pv 1) pa_nil)) pe_int (nomark _)) pss_never (pss_one (ps_if (pt_cmpR op_eq (pe_callB (call_lenK (K := K) rfl) (by rfl) z_len PySem.boot_len (pa_cons (pv 1) pa_nil)) pe_int (nomark _)) pss_never (pss_one (ps_expr (pe_callLS (i := 0) G hr rfl (Or.inl rfl) kp b (fun σ => passAt tk σ) (pa_cons (pe_ix (ix_lisK (K := K) rfl) (pv 1) pe_int (fun _ _ => rfl)) (pa_cons (pe_ix (ix_lisK (K := K) rfl) (pv 1) pe_int (fun _ _ => rfl)) (pa_cons (pe_ix (ix_lisK (K := K) rfl) (pv 1) pe_int (fun _ _ => rfl)) (pa_cons (pe_ix (ix_lisK (K := K) rfl) (pv 1) pe_int (fun _ _ => rfl)) pa_nil))))))))))))))
        (.cons ⟨rfl, by decide, Or.inl T.gD⟩ (fun a oe cls d pn hz hf => pss_one (ps_ret (pe_cmpR op_eq (pv 2) pe_str (nomark _)))) (.cons ⟨rfl, by decide, Or.inl T.gW⟩ (fun a oe cls d pn hz hf => pss_one (ps_ret (pe_cmpR op_eq (pv 2) pe_str (nomark _)))) (.cons ⟨rfl, by decide, Or.inl T.gE⟩ (fun a oe cls d pn hz hf => pss_one (ps_ret pe_bl)) .nil)))) pss_never, ?_⟩
      refine ⟨_, rfl, L, _, rfl, .inl (SqL.of hL), rfl, _, rfl, ite2 (fun h => absurd (V.int.inj (of_decide_eq_true h)) (by show ¬ ((4 : Int) = 1); decide)) (fun _ => ?_)⟩
      refine ⟨_, rfl, L, _, rfl, .inl (SqL.of hL), rfl, _, rfl, ite2 (fun h => absurd (V.int.inj (of_decide_eq_true h)) (by show ¬ ((4 : Int) = 2); decide)) (fun _ => ?_)⟩
      refine ⟨_, rfl, L, _, rfl, .inl (SqL.of hL), rfl, _, rfl, ite2 (fun h => absurd (V.int.inj (of_decide_eq_true h)) (by show ¬ ((4 : Int) = 3); decide)) (fun _ => ?_)⟩
      exact ⟨rfl, _, rfl, _, _, _, _, rfl, rfl, SqL.of hL, rfl, _, rfl, _, _, _, _, rfl, rfl, SqL.of hL, rfl, _, rfl, _, _, _, _, rfl, rfl, SqL.of hL, rfl, _, rfl, _, _, _, _, rfl, rfl, SqL.of hL, rfl, hl, hA, fun dd H1 s1 => wMany_ok T hw rfl (out H1 s1)⟩
    | [], _, hn, _, _ => exact absurd hn (by simp)
    | [_], _, hn, _, _ => exact absurd hn (by simp)
    | [_, _], _, hn, _, _ => exact absurd hn (by simp)
    | [_, _, _], _, hn, _, _ => exact absurd hn (by simp)
    | _ :: _ :: _ :: _ :: _ :: _, _, hn, _, _ => exact absurd hn (by simp)
end
end Cs
set_option maxHeartbeats 4000000
namespace Cs
open PySem PySem.Spec PyProof.Rows L2
local macro_rules | `(tactic| walk_at "rd") => `(tactic| (first
  | (refine ⟨_, rfl, ?_⟩)
  | (refine ⟨_, _, rfl, rfl, ?_⟩)
  | (refine .inl ⟨_, rfl, ?_⟩)
  | (refine .inr ⟨_, rfl, ?_⟩)
  | (refine ⟨_, _, _, _, rfl, rfl, SqL.of upd_same, rfl, ?_⟩)
  | (refine ⟨_, _, _, _, rfl, rfl, upd_same, rfl, ?_⟩)
  | (refine ⟨_, ?xs, _, ?v, rfl, rfl, ?h, ?x, ?_⟩; (case h => first | exact SqL.of (by assumption) | exact SqT.of (by assumption) | assumption); (case x => first | rfl | exact atI_nat (j := 0) rfl | exact atI_nat (j := 1) rfl))))
local macro_rules | `(tactic| walk_at "isi") => `(tactic| (first
  | (refine ⟨_, _, _, _, _, rfl, .ty _, .base (.int _), kit_ty kit_it, ?_⟩)
  | (refine ⟨_, _, _, _, _, rfl, .ty _, .base (.int _), kit_ty kit_ib, ?_⟩)
  | (refine ⟨_, _, _, _, _, rfl, .ty _, .base (.int _), kit_ty kit_ii, ?_⟩)
  | (refine ⟨_, _, _, _, _, rfl, .ty _, .base (.bl _), kit_ty kit_bt, ?_⟩)
  | (refine ⟨_, _, _, _, _, rfl, .ty _, .base (.bl _), kit_ty kit_bb, ?_⟩)
  | (refine ⟨_, _, _, _, _, rfl, .ty _, .base (.bl _), kit_ty kit_bi, ?_⟩)))
section
variable {P : Program} {w : World} {K : PySem.W.Frag} {mg : Str → Option Value} {base : Heap}
abbrev sLowest : Stmt := topS 31
theorem scLowest : FnScope ["p", "q", "first", "second", "_law_turn"] ["p", "q"] (defScope sLowest) := ⟨rfl, rfl, rfl, by decide +kernel, rfl, by decide +kernel, by decide +kernel⟩
abbrev sLPlus : Stmt := topS 32
theorem scLPlus : FnScope ["a", "b"] ["a", "b"] (defScope sLPlus) := ⟨rfl, rfl, rfl, by decide +kernel, rfl, by decide +kernel, by decide +kernel⟩
abbrev sLMinus : Stmt := topS 33
theorem scLMinus : FnScope ["a", "b"] ["a", "b"] (defScope sLMinus) := ⟨rfl, rfl, rfl, by decide +kernel, rfl, by decide +kernel, by decide +kernel⟩
abbrev sLNumber : Stmt := topS 45
theorem scLNumber : FnScope ["count", "day", "year", "month", "number", "length"] ["count", "day"] (defScope sLNumber) := ⟨rfl, rfl, rfl, by decide +kernel, rfl, by decide +kernel, by decide +kernel⟩
abbrev sLPart : Stmt := topS 46
theorem scLPart : FnScope ["count", "start", "end"] ["count", "start", "end"] (defScope sLPart) := ⟨rfl, rfl, rfl, by decide +kernel, rfl, by decide +kernel, by decide +kernel⟩
theorem ok_lowest {f : Addr} {fd : FuncData} {k : Nat} (F : Fun K "_law_lowest" "_law_lowest" sLowest f fd) (z_range : mg "range" = none) (z_int : mg "int" = none) (z_abs : mg "abs" = none) : FnOk P w K mg base CX0 (k + 1) f fd ["p", "q"] spLow := by
  refine F.ok scLowest (fun vs H Q E h => ?_) (fun cdv A outer s H vs Q E hr h => ?_)
  · obtain ⟨a, b, rfl, _⟩ := h
    rfl
  · obtain ⟨p, q, rfl, q0, hp, hq, out⟩ := h
    refine ⟨_, (pss_cons (ps_set (i := 2) scLowest.nd rfl (Or.inl rfl) (pe_callB call_abs (by rfl) z_abs (by decide +kernel) (pa_cons (pv 0) pa_nil)))
      (pss_cons (ps_set (i := 3) scLowest.nd rfl (Or.inl rfl) (pv 1))
      (pss_cons (ps_for PassesOwn.never rfl (pi_range1 rfl z_range (pa_cons pe_int pa_nil)) (pg_name (i := 4) scLowest.nd rfl (Or.inl rfl)) (pss_cons (ps_if (pt_cmpR op_eq (pv 3) pe_int (nomark _)) (pss_one ps_break) pss_nil)
      (pss_one (ps_par (i := 2) (j := 3) rfl scLowest.nd rfl rfl (by decide) rfl rfl (pa_cons (pv 3) (pa_cons (pe_op op_mod (pe_callTy call_int1 (by rfl) z_int (by decide +kernel) (pa_cons (pv 2) pa_nil)) (pv 3)) pa_nil)) rfl))))
      (pss_cons (ps_if (pt_cmpR op_eq (pv 2) pe_int (nomark _)) (pss_one (ps_ret (pe_tup (pa_cons pe_int (pa_cons pe_int pa_nil))))) pss_nil)
      (pss_one (ps_ret (pe_tup (pa_cons (pe_op op_fdivA (pv 0) (pv 2)) (pa_cons (pe_op op_fdivA (pv 1) (pv 2)) pa_nil))))))))), ?_⟩
    obtain ⟨b, rfl⟩ : ∃ b : Nat, q = (b : Int) := ⟨q.toNat, by omega⟩
    have hq' : b < 2 ^ 2400 := by
      rw [Int.natAbs_natCast] at hq
      exact hq
    have hab : p.natAbs * b < 2 ^ 4800 := Nat.lt_of_lt_of_eq (Nat.mul_lt_mul'' hp hq') (Nat.pow_add 2 2400 2400).symm
    have hg := gcd_pos p (b : Int) (by omega)
    rw [Int.natAbs_natCast] at hg
    have hgb : ((Nat.gcd p.natAbs b : Nat) : Int).natAbs < 2 ^ 9000 := by
      rw [Int.natAbs_natCast]
      exact Nat.lt_of_le_of_lt (Nat.gcd_le_right _ (by omega)) (Nat.lt_trans hq' (Nat.pow_lt_pow_right (by decide) (by decide)))
    have en := frac_num p (b : Int) (by omega)
    have ed := frac_den p (b : Int) (by omega)
    rw [if_neg (by omega), Int.natAbs_natCast] at en ed
    have habs : (if p < 0 then -p else p) = (p.natAbs : Int) := by split <;> omega
    refine ⟨_, rfl, _, rfl, ?_⟩
    dsimp only [gName, tSeq]
    refine ⟨_, rfl, ?_⟩
    refine ⟨5000, rfl, by decide, by decide, for_range (n := 5000) (fun i σ H' => ∃ (x y : Nat) (k4 : Option V), σ = [some (.int p), some (.int b), some (.int x), some (.int y), k4] ∧ H' = H ∧ ((i ≤ 4801 ∧ EG (Nat.gcd p.natAbs b) 4800 i x y) ∨ (y = 0 ∧ x = Nat.gcd p.natAbs b))) ?_ ?_ ?_⟩
    · refine ⟨p.natAbs, b, none, ?_, rfl, .inl ⟨by omega, EG.start hab⟩⟩
      rw [← habs]
      rfl
    · intro i σ H1 hi hP
      obtain ⟨x, y, k4, rfl, rfl, hP⟩ := hP
      refine ⟨_, rfl, rfl, _, rfl, ite2 (fun h0 => ?_) (fun h0 => ?_)⟩
      · have hy : y = 0 := by have := V.int.inj (of_decide_eq_true h0); omega
        have hx : x = Nat.gcd p.natAbs b := by
          rcases hP with ⟨_, hE⟩ | ⟨_, hx⟩
          · subst hy; exact hE.zero
          · exact hx
        subst hy
        subst hx
        refine ⟨_, rfl, rfl, _, rfl, ite2 (fun h0 => absurd (V.int.inj (of_decide_eq_true h0)) (by omega)) (fun _ => ?_)⟩
        repeat walk_at "rd"
        refine ⟨⟨by omega, hgb⟩, ?_⟩
        repeat walk_at "rd"
        refine ⟨⟨by omega, hgb⟩, by show 2 ≤ sizeLine; decide, fun t ht => ?_⟩
        refine out t _ (Same.new ht) ht (upd_same.trans ?_)
        show some (HO.tup [.int (p.fdiv _), .int ((b : Int).fdiv _)]) = some (HO.tup [.int _, .int _])
        rw [en, ed]
      · have hy : 0 < y := by
          rcases Nat.eq_zero_or_pos y with z | z
          · subst z; exact absurd (decide_eq_true rfl) h0
          · exact z
        rcases hP with ⟨hi2, hE⟩ | ⟨z, _⟩
        · have hi3 : i ≤ 4800 := by
            rcases Nat.lt_or_ge i 4801 with z | z
            · omega
            · have e : i = 4801 := by omega
              subst e
              have := hE.last
              omega
          repeat walk_at "rd"
          refine ⟨(show (0 : Int) < (y : Int) by omega), ?_⟩
          repeat walk_at "rd"
          exact ⟨_, _, rfl, y, x % y, some (.int (0 + (i : Int))), rfl, rfl, .inl ⟨by omega, hE.step hy hi3⟩⟩
        · omega
    · intro σ H1 hP
      obtain ⟨x, y, k4, rfl, rfl, hP⟩ := hP
      rcases hP with ⟨z, _⟩ | ⟨hy, hx⟩
      · omega
      · subst hy
        subst hx
        refine ⟨_, rfl, rfl, _, rfl, ite2 (fun h0 => absurd (V.int.inj (of_decide_eq_true h0)) (by omega)) (fun _ => ?_)⟩
        repeat walk_at "rd"
        refine ⟨⟨by omega, hgb⟩, ?_⟩
        repeat walk_at "rd"
        refine ⟨⟨by omega, hgb⟩, by show 2 ≤ sizeLine; decide, fun t ht => ?_⟩
        refine out t _ (Same.new ht) ht (upd_same.trans ?_)
        show some (HO.tup [.int (p.fdiv _), .int ((b : Int).fdiv _)]) = some (HO.tup [.int _, .int _])
        rw [en, ed]
theorem ok_lplus {f : Addr} {fd : FuncData} {k : Nat} (F : Fun K "_law_plus" "_law_plus" sLPlus f fd) (c_law_lowest : Cal P w K mg base k "_law_lowest" ["p", "q"] spLow) : FnOk P w K mg base CX0 (k + 1) f fd ["a", "b"] (spOp (fun r s => r + s) fun _ _ => True) := by
  refine F.ok scLPlus (fun vs H Q E h => ?_) (fun cdv A outer s H vs Q E hr h => ?_)
  · obtain ⟨a, b, r, s, rfl, _⟩ := h
    rfl
  · obtain ⟨a, b, r, s, rfl, ha, hb, zr, zs, ho, out⟩ := h
    refine ⟨_, (pss_one (ps_ret (pe_cal c_law_lowest hr (by rfl) (pa_cons (pe_op op_add (pe_op op_mulA (pe_ix ix_tup (pv 0) pe_int (fun _ _ => rfl)) (pe_ix ix_tup (pv 1) pe_int (fun _ _ => rfl))) (pe_op op_mulA (pe_ix ix_tup (pv 1) pe_int (fun _ _ => rfl)) (pe_ix ix_tup (pv 0) pe_int (fun _ _ => rfl)))) (pa_cons (pe_op op_mulA (pe_ix ix_tup (pv 0) pe_int (fun _ _ => rfl)) (pe_ix ix_tup (pv 1) pe_int (fun _ _ => rfl))) pa_nil))))), ?_⟩
    repeat walk_at "rd"
    refine ⟨mulZ zr.nn zs.dd, ?_⟩
    repeat walk_at "rd"
    refine ⟨mulZ zs.nn zr.dd, ?_⟩
    repeat walk_at "rd"
    refine ⟨mulZ zr.dd zs.dd, ?_⟩
    have q1 : (0 : Int) < r.den := by have := r.den_nz; omega
    have q2 : (0 : Int) < s.den := by have := s.den_nz; omega
    refine ⟨_, _, rfl, Int.mul_pos q1 q2, (Nat.lt_of_lt_of_le (add_lt (pow_lt zr.nn zs.dd) (pow_lt zs.nn zr.dd)) (Nat.pow_le_pow_right (by decide) (by decide))), (Nat.lt_of_lt_of_le (pow_lt zr.dd zs.dd) (Nat.pow_le_pow_right (by decide) (by decide))), fun t H' sm hn ht => ?_⟩
    rw [add_div] at ht
    exact out t H' sm hn ht
theorem ok_lminus {f : Addr} {fd : FuncData} {k : Nat} (F : Fun K "_law_minus" "_law_minus" sLMinus f fd) (c_law_lowest : Cal P w K mg base k "_law_lowest" ["p", "q"] spLow) : FnOk P w K mg base CX0 (k + 1) f fd ["a", "b"] (spOp (fun r s => r - s) fun _ _ => True) := by
  refine F.ok scLMinus (fun vs H Q E h => ?_) (fun cdv A outer s H vs Q E hr h => ?_)
  · obtain ⟨a, b, r, s, rfl, _⟩ := h
    rfl
  · obtain ⟨a, b, r, s, rfl, ha, hb, zr, zs, ho, out⟩ := h
    refine ⟨_, (pss_one (ps_ret (pe_cal c_law_lowest hr (by rfl) (pa_cons (pe_op op_sub (pe_op op_mulA (pe_ix ix_tup (pv 0) pe_int (fun _ _ => rfl)) (pe_ix ix_tup (pv 1) pe_int (fun _ _ => rfl))) (pe_op op_mulA (pe_ix ix_tup (pv 1) pe_int (fun _ _ => rfl)) (pe_ix ix_tup (pv 0) pe_int (fun _ _ => rfl)))) (pa_cons (pe_op op_mulA (pe_ix ix_tup (pv 0) pe_int (fun _ _ => rfl)) (pe_ix ix_tup (pv 1) pe_int (fun _ _ => rfl))) pa_nil))))), ?_⟩
    repeat walk_at "rd"
    refine ⟨mulZ zr.nn zs.dd, ?_⟩
    repeat walk_at "rd"
    refine ⟨mulZ zs.nn zr.dd, ?_⟩
    repeat walk_at "rd"
    refine ⟨mulZ zr.dd zs.dd, ?_⟩
    have q1 : (0 : Int) < r.den := by have := r.den_nz; omega
    have q2 : (0 : Int) < s.den := by have := s.den_nz; omega
    refine ⟨_, _, rfl, Int.mul_pos q1 q2, (Nat.lt_of_lt_of_le (sub_lt (pow_lt zr.nn zs.dd) (pow_lt zs.nn zr.dd)) (Nat.pow_le_pow_right (by decide) (by decide))), (Nat.lt_of_lt_of_le (pow_lt zr.dd zs.dd) (Nat.pow_le_pow_right (by decide) (by decide))), fun t H' sm hn ht => ?_⟩
    rw [sub_div] at ht
    exact out t H' sm hn ht
theorem ok_lnumber {f : Addr} {fd : FuncData} {k : Nat} (F : Fun K "_law_number" "_law_number" sLNumber f fd) (c_law_date : Cal P w K mg base k "_law_date" ["day"] spDateOf) (c_law_lengths : Cal P w K mg base k "_law_lengths" [] spLens) (c_law_lowest : Cal P w K mg base k "_law_lowest" ["p", "q"] spLow) (c_law_plus : Cal P w K mg base k "_law_plus" ["a", "b"] (spOp (fun r s => r + s) fun _ _ => True)) (z_min : mg "min" = none) : FnOk P w K mg base CX0 (k + 1) f fd ["count", "day"] (spNum lnumP) := by
  refine F.ok scLNumber (fun vs H Q E h => ?_) (fun cdv A outer s H vs Q E hr h => ?_)
  · obtain ⟨c, d, rfl, _⟩ := h
    rfl
  · obtain ⟨c, day, rfl, hc, d0, d1, out⟩ := h
    refine ⟨_, (pss_cons (ps_if (pt_cmpR op_eq (pv 0) pe_str (nomark _)) (pss_one (ps_ret (pe_cal c_law_lowest hr (by rfl) (pa_cons (pv 1) (pa_cons pe_int pa_nil))))) pss_nil)
      (pss_cons (ps_asg (pe_cal c_law_date hr (by rfl) (pa_cons (pv 1) pa_nil)) (pg_tup rfl (pgs_cons (pg_name (i := 2) scLNumber.nd rfl (Or.inl rfl)) (pgs_cons (pg_name (i := 3) scLNumber.nd rfl (Or.inl rfl)) (pgs_cons (pg_name (i := 4) scLNumber.nd rfl (Or.inl rfl)) pgs_nil)))))
      (pss_cons (ps_if (pt_cmpR op_eq (pv 0) pe_str (nomark _)) (pss_one (ps_ret (pe_cal c_law_lowest hr (by rfl) (pa_cons (pe_op op_add (pe_op op_add (pe_op op_mulA pe_int (pv 2)) (pe_op op_mulA pe_int (pv 3))) (pe_callB (call_min2 rfl) (by rfl) z_min (by decide +kernel) (pa_cons (pv 4) (pa_cons pe_int pa_nil)))) (pa_cons pe_int pa_nil))))) pss_nil)
      (pss_cons (ps_set (i := 5) scLNumber.nd rfl (Or.inl rfl) (pe_ix ix_list (pe_cal0 c_law_lengths hr (by rfl)) (pe_op op_sub (pv 3) pe_int) (fun _ _ => rfl)))
      (pss_one (ps_ret (pe_cal c_law_plus hr (by rfl) (pa_cons (pe_cal c_law_lowest hr (by rfl) (pa_cons (pe_op op_add (pe_op op_mulA pe_int (pv 2)) (pv 3)) (pa_cons pe_int pa_nil))) (pa_cons (pe_cal c_law_lowest hr (by rfl) (pa_cons (pe_op op_sub (pv 4) pe_int) (pa_cons (pe_op op_mulA pe_int (pv 5)) pa_nil))) pa_nil))))))))), ?_⟩
    have hmz := mon_sz d0 d1
    have b24 : ∀ {z : Int}, z.natAbs < 2 ^ 60 → z.natAbs < 2 ^ 2400 := fun h => Nat.lt_of_lt_of_le h (Nat.pow_le_pow_right (by decide) (by decide))
    refine st_if (H := H) (b := decide (V.str c = V.str "fixed")) (et_eqV rfl (ei_var (i := 0) rfl) ei_c) (Same.refl H) (fun hb H2 e2 => ?_) (fun hb H2 e2 => ?_)
    · have hb : c = "fixed" := V.str.inj (of_decide_eq_true hb)
      refine eq_low (H := H2) (p := day) (q := 365) (ei_var (i := 1) rfl) ei_c (by decide) (b24 (by omega)) (b24 (by decide)) H2 (Same.refl H2) _ fun p H3 e3 hp => out p H3 (e2.trans e3) ?_
      unfold lnumP
      rw [if_pos hb]
      exact hp
    · have hb : ¬ c = "fixed" := fun q => of_decide_eq_false hb (congrArg V.str q)
      refine ⟨_, rfl, day, rfl, d0, fun t H3 y i n s1 ht hd => ?_⟩
      refine ⟨t, [_, _, _], rfl, SqT.of ht, rfl, _, [_, _], rfl, _, [_], rfl, _, [], rfl, rfl, ?_⟩
      have hn : num day = n := hd.num
      have hm : mon day = 12 * y + (i : Int) := hd.mon
      have hy := hd.y0 d0
      have hi := hd.hi
      have hk2 := mn_or (num day) 30
      have hl := ml_bd (mon day)
      have hnb := num_bd day
      dsimp only [gName, tSeq]
      refine st_if (H := H3) (b := decide (V.str c = V.str "thirty")) (et_eqV rfl (ei_var (i := 0) rfl) ei_c) (Same.refl H3) (fun hb2 H4 e4 => ?_) (fun hb2 H4 e4 => ?_)
      · have hb2 : c = "thirty" := V.str.inj (of_decide_eq_true hb2)
        refine eq_low (H := H4) (p := 30 * mon day + 30 + mn (num day) 30) (q := 360) (ei_is (ei_add (ei_add (ei_mul ei_c (ei_var (i := 2) rfl) (mulL (by decide))) (ei_mul ei_c (ei_var (i := 3) rfl) (mulL (by decide)))) (ei_min (ei_var (i := 4) rfl) ei_c)) (congrArg V.int (by rw [hn, hm]; omega))) ei_c (by decide) (b24 (by rcases hk2 with q | q <;> rw [q] <;> omega)) (b24 (by decide)) H4 (Same.refl H4) _ fun p H5 e5 hp => out p H5 ((e2.trans s1).trans (e4.trans e5)) ?_
        unfold lnumP
        rw [if_neg hb, if_pos hb2]
        exact hp
      · have hb2 : ¬ c = "thirty" := fun q => of_decide_eq_false hb2 (congrArg V.str q)
        have e1 : lnumP c day = Rat.divInt (mon day + 1) 12 + Rat.divInt (num day - 1) (12 * ml (mon day)) := by
          unfold lnumP
          rw [if_neg hb, if_neg hb2]
        have hml : ml (mon day) = mlen i := by rw [hm]; exact (fsm_of y i hi).2
        dsimp only [gName, tSeq, tNext]
        refine st_set (i := 5) (v := .int (ml (mon day))) (ei_is (ei_lens (K := K) (i := i) (ei_is (ei_sub (ei_var (i := 3) rfl) ei_c) (congrArg V.int (by omega))) hi) (congrArg V.int hml.symm)) e4 fun H5 e5 => ?_
        refine (eq_op (f := fun r s => r + s) (ok := fun _ _ => True) (H := H5) (eq_low (p := mon day + 1) (q := 12) (ei_is (ei_add (ei_mul ei_c (ei_var (i := 2) rfl) (mulL (by decide))) (ei_var (i := 3) rfl)) (congrArg V.int (by rw [hm]; omega))) ei_c (by decide) (b24 (by omega)) (b24 (by decide))) (eq_low (p := num day - 1) (q := 12 * ml (mon day)) (ei_is (ei_sub (ei_var (i := 4) rfl) ei_c) (congrArg V.int (by rw [hn]))) (ei_mul ei_c (ei_var (i := 5) rfl) (mulL (by decide))) (by omega) (b24 (by omega)) (b24 (by omega))) ((sz_div (n := 42) (by decide) (by omega) (by decide)).mono (by decide)) ((sz_div (n := 10) (by omega) (by omega) (by omega)).mono (by decide)) trivial) H5 (Same.refl H5) _ fun p H6 e6 hp => out p H6 ((e2.trans s1).trans (e5.trans e6)) ?_
        rw [e1]
        exact hp
theorem ok_lpart {f : Addr} {fd : FuncData} {k : Nat} (F : Fun K "_law_part" "_law_part" sLPart f fd) (c_law_number : Cal P w K mg base k "_law_number" ["count", "day"] (spNum lnumP)) (c_law_minus : Cal P w K mg base k "_law_minus" ["a", "b"] (spOp (fun r s => r - s) fun _ _ => True)) : FnOk P w K mg base CX0 (k + 1) f fd ["count", "start", "end"] spPart := by
  refine F.ok scLPart (fun vs H Q E h => ?_) (fun cdv A outer s H vs Q E hr h => ?_)
  · obtain ⟨c, a, b, rfl, _⟩ := h
    rfl
  · obtain ⟨c, a, b, rfl, hc, a0, ab, b1, out⟩ := h
    refine ⟨_, (pss_one (ps_ret (pe_cal c_law_minus hr (by rfl) (pa_cons (pe_cal c_law_number hr (by rfl) (pa_cons (pv 0) (pa_cons (pv 2) pa_nil))) (pa_cons (pe_cal c_law_number hr (by rfl) (pa_cons (pv 0) (pa_cons (pv 1) pa_nil))) pa_nil))))), ?_⟩
    have z1 := sz_lnum (c := c) (show 0 ≤ b by omega) b1
    have z2 := sz_lnum (c := c) a0 (show a < 2 ^ 40 by omega)
    refine (eq_op (f := fun r s => r - s) (ok := fun _ _ => True) (H := H) (eq_num (ei_var (i := 0) rfl) (ei_var (i := 2) rfl) hc (by omega) b1) (eq_num (ei_var (i := 0) rfl) (ei_var (i := 1) rfl) hc a0 (by omega)) (z1.mono (by decide)) (z2.mono (by decide)) trivial) H (Same.refl H) _ fun p H2 e2 hp => out p H2 e2 ?_
    rw [← prt_law]
    exact hp
abbrev sLTimes : Stmt := topS 34
theorem scLTimes : FnScope ["a", "b"] ["a", "b"] (defScope sLTimes) := ⟨rfl, rfl, rfl, by decide +kernel, rfl, by decide +kernel, by decide +kernel⟩
theorem ok_ltimes {f : Addr} {fd : FuncData} {k : Nat} (F : Fun K "_law_times" "_law_times" sLTimes f fd) (c_law_lowest : Cal P w K mg base k "_law_lowest" ["p", "q"] spLow) : FnOk P w K mg base CX0 (k + 1) f fd ["a", "b"] (spOp (fun r s => r * s) fun _ _ => True) := by
  refine F.ok scLTimes (fun vs H Q E h => ?_) (fun cdv A outer s H vs Q E hr h => ?_)
  · obtain ⟨a, b, r, s, rfl, _⟩ := h
    rfl
  · obtain ⟨a, b, r, s, rfl, ha, hb, zr, zs, ho, out⟩ := h
    refine ⟨_, (pss_one (ps_ret (pe_cal c_law_lowest hr (by rfl) (pa_cons (pe_op op_mulA (pe_ix ix_tup (pv 0) pe_int (fun _ _ => rfl)) (pe_ix ix_tup (pv 1) pe_int (fun _ _ => rfl))) (pa_cons (pe_op op_mulA (pe_ix ix_tup (pv 0) pe_int (fun _ _ => rfl)) (pe_ix ix_tup (pv 1) pe_int (fun _ _ => rfl))) pa_nil))))), ?_⟩
    repeat walk_at "rd"
    refine ⟨mulZ zr.nn zs.nn, ?_⟩
    repeat walk_at "rd"
    refine ⟨mulZ zr.dd zs.dd, ?_⟩
    have q1 : (0 : Int) < r.den := by have := r.den_nz; omega
    have q2 : (0 : Int) < s.den := by have := s.den_nz; omega
    refine ⟨_, _, rfl, Int.mul_pos q1 q2, (Nat.lt_of_lt_of_le (pow_lt zr.nn zs.nn) (Nat.pow_le_pow_right (by decide) (by decide))), (Nat.lt_of_lt_of_le (pow_lt zr.dd zs.dd) (Nat.pow_le_pow_right (by decide) (by decide))), fun t H' sm hn ht => ?_⟩
    rw [mul_div] at ht
    exact out t H' sm hn ht
abbrev sLFrac : Stmt := topS 48
theorem scLFrac : FnScope ["state"] ["state"] (defScope sLFrac) := ⟨rfl, rfl, rfl, by decide +kernel, rfl, by decide +kernel, by decide +kernel⟩
def spLFrac (K : PySem.W.Frag) : Sp := fun vs H Q _ => ∃ d : Addr, vs = [.ref d] ∧ St5 K H d ∧ ∀ (t : Addr) (r : Rat) (H' : Hp), But d H H' → St5 K H' d → Sz 20 r → H' t = some (nd r) → Q (.ref t) H'
theorem ok_lfraction {f : Addr} {fd : FuncData} {k : Nat} (F : Fun K "_law_fraction" "_law_fraction" sLFrac f fd) (c_law_draw : Cal P w K mg base k "_law_draw" ["state", "many"] (spDrawS K)) (c_law_lowest : Cal P w K mg base k "_law_lowest" ["p", "q"] spLow) : FnOk P w K mg base CX0 (k + 1) f fd ["state"] (spLFrac K) := by
  refine F.ok scLFrac (fun vs H Q E h => ?_) (fun cdv A outer s H vs Q E hr h => ?_)
  · obtain ⟨d, rfl, _⟩ := h
    rfl
  · obtain ⟨d, rfl, hd, out⟩ := h
    refine ⟨_, (pss_one (ps_ret (pe_cal c_law_lowest hr (by rfl) (pa_cons (pe_op op_sub (pe_cal c_law_draw hr (by rfl) (pa_cons (pv 0) (pa_cons pe_int pa_nil))) pe_int) (pa_cons (pe_op op_add pe_int (pe_cal c_law_draw hr (by rfl) (pa_cons (pv 0) (pa_cons pe_int pa_nil)))) pa_nil))))), ?_⟩
    refine ⟨_, rfl, d, 400, rfl, by decide, by decide, hd, fun v H1 v0 v1 b1 D1 => ?_⟩
    refine ⟨_, _, rfl, rfl, _, rfl, d, 30, rfl, by decide, by decide, D1, fun u H2 u0 u1 b2 D2 => ?_⟩
    refine ⟨_, _, rfl, rfl, _, _, rfl, by omega, ?_, ?_, fun t H3 e3 _ ht => ?_⟩
    · exact Nat.lt_of_lt_of_le (show (v - 100).natAbs < 2 ^ 20 by omega) (Nat.pow_le_pow_right (by decide) (by decide))
    · exact Nat.lt_of_lt_of_le (show (1 + u).natAbs < 2 ^ 20 by omega) (Nat.pow_le_pow_right (by decide) (by decide))
    · exact out t _ H3 ((b1.trans b2).trans (Same.but e3)) (D2.same e3) (sz_div (by omega) (by omega) (by omega)) ht
end
end Cs
set_option maxHeartbeats 4000000
namespace Cs
open PySem PySem.Spec PyProof.Rows L2
local macro_rules | `(tactic| walk_at "rd") => `(tactic| (first
  | (refine ⟨_, rfl, ?_⟩)
  | (refine ⟨_, _, rfl, rfl, ?_⟩)
  | (refine .inl ⟨_, rfl, ?_⟩)
  | (refine .inr ⟨_, rfl, ?_⟩)
  | (refine ⟨_, _, _, _, rfl, rfl, SqL.of upd_same, rfl, ?_⟩)
  | (refine ⟨_, _, _, _, rfl, rfl, upd_same, rfl, ?_⟩)
  | (refine ⟨_, ?xs, _, ?v, rfl, rfl, ?h, ?x, ?_⟩; (case h => first | exact SqL.of (by assumption) | exact SqT.of (by assumption) | assumption); (case x => first | rfl | exact atI_nat (j := 0) rfl | exact atI_nat (j := 1) rfl))))
local macro_rules | `(tactic| walk_at "isi") => `(tactic| (first
  | (refine ⟨_, _, _, _, _, rfl, .ty _, .base (.int _), kit_ty kit_it, ?_⟩)
  | (refine ⟨_, _, _, _, _, rfl, .ty _, .base (.int _), kit_ty kit_ib, ?_⟩)
  | (refine ⟨_, _, _, _, _, rfl, .ty _, .base (.int _), kit_ty kit_ii, ?_⟩)
  | (refine ⟨_, _, _, _, _, rfl, .ty _, .base (.bl _), kit_ty kit_bt, ?_⟩)
  | (refine ⟨_, _, _, _, _, rfl, .ty _, .base (.bl _), kit_ty kit_bb, ?_⟩)
  | (refine ⟨_, _, _, _, _, rfl, .ty _, .base (.bl _), kit_ty kit_bi, ?_⟩)))
section
variable {P : Program} {w : World} {K : PySem.W.Frag} {mg : Str → Option Value} {base : Heap}
abbrev sLaw : Stmt := topS 49
theorem scLaw : FnScope ["script", "state", "start", "end", "count", "days", "principal", "rate", "scale", "whole", "given", "rows", "due", "found", "row", "at"] ["script"] (defScope sLaw) := ⟨rfl, rfl, rfl, by decide +kernel, rfl, by decide +kernel, by decide +kernel⟩
theorem pick3 (v : Int) (v0 : 0 ≤ v) (v3 : v < 3) : ∃ c : Str, atI [V.str "fixed", V.str "thirty", V.str "plain"] v = some (.str c) ∧ c ∈ counts := by
  obtain ⟨i, rfl⟩ : ∃ i : Nat, v = i := ⟨v.toNat, by omega⟩
  match i, v3 with
  | 0, _ => exact ⟨_, atI_nat (j := 0) rfl, by decide +kernel⟩
  | 1, _ => exact ⟨_, atI_nat (j := 1) rfl, by decide +kernel⟩
  | 2, _ => exact ⟨_, atI_nat (j := 2) rfl, by decide +kernel⟩
  | i + 3, q => exact absurd q (by omega)
theorem ok_law {f : Addr} {fd : FuncData} {k j : Nat} {CD CW a_interests : Addr} {bw : Str → Prop} (F : Fun K "law" "law" sLaw f fd) (c_law_state : Cal P w K mg base k "_law_state" ["script"] (spState K)) (c_law_draw : Cal P w K mg base k "_law_draw" ["state", "many"] (spDrawS K)) (c_schedule : Cal P w K mg base k "schedule" ["start", "end", "months"] spSched) (c_law_fraction : Cal P w K mg base k "_law_fraction" ["state"] (spLFrac K)) (c_law_times : Cal P w K mg base k "_law_times" ["a", "b"] (spOp (fun r s => r * s) fun _ _ => True)) (c_law_plus : Cal P w K mg base k "_law_plus" ["a", "b"] (spOp (fun r s => r + s) fun _ _ => True)) (c_interest : Cal P w K mg base k "interest" ["principal", "rate", "count", "start", "end"] spInt) (c_interests : Cal P w K mg base k "interests" ["principal", "rate", "count", "days"] spInts) (c_law_part : Cal P w K mg base k "_law_part" ["count", "start", "end"] spPart) (c_law_refuses : Cal P w K mg base k "_law_refuses" ["call", "arguments", "wanted"] (spRefusesH P w K mg base j CD CW)) (z_range : mg "range" = none) (z_list : mg "list" = none) (z_len : mg "len" = none) (z_isinstance : mg "isinstance" = none)
    (m_interests : mg "interests" = some (.ref a_interests)) (hO : bw "other") (xD : ∀ args H, aInts (fun c x y => c ∈ counts ∧ (x < 0 ∨ y < x)) args H → args.length = 4 → RaisesAtH P w K mg base j a_interests args H CD) (xW : ∀ args H, aInts (fun c _ _ => bw c) args H → args.length = 4 → RaisesAtH P w K mg base j a_interests args H CW) :
    FnOk P w K mg base CX0 (k + 1) f fd ["script"] (spLaw K) := by
  refine F.ok scLaw (fun vs H Q E h => ?_) (fun cdv A outer s H vs Q E hr h => ?_)
  · obtain ⟨d, _, rfl, _⟩ := h
    rfl
  · obtain ⟨a, ns, rfl, hS, hlen, out⟩ := h
    refine ⟨_, (pss_cons (ps_set (i := 1) scLaw.nd rfl (Or.inl rfl) (pe_cal c_law_state hr (by rfl) (pa_cons (pv 0) pa_nil)))
      (pss_cons (ps_set (i := 2) scLaw.nd rfl (Or.inl rfl) (pe_cal c_law_draw hr (by rfl) (pa_cons (pv 1) (pa_cons pe_int pa_nil))))
      (pss_cons (ps_set (i := 3) scLaw.nd rfl (Or.inl rfl) (pe_op op_add (pe_op op_add (pv 2) pe_int) (pe_cal c_law_draw hr (by rfl) (pa_cons (pv 1) (pa_cons pe_int pa_nil)))))
      (pss_cons (ps_set (i := 4) scLaw.nd rfl (Or.inr rfl) (pe_ix ix_list (pe_lst (pa_cons pe_str (pa_cons pe_str (pa_cons pe_str pa_nil)))) (pe_cal c_law_draw hr (by rfl) (pa_cons (pv 1) (pa_cons pe_int pa_nil))) (fun _ _ => rfl)))
      (pss_cons (ps_set (i := 5) scLaw.nd rfl (Or.inr rfl) (pe_cal c_schedule hr (by rfl) (pa_cons (pv 2) (pa_cons (pv 3) (pa_cons (pe_op op_add pe_int (pe_cal c_law_draw hr (by rfl) (pa_cons (pv 1) (pa_cons pe_int pa_nil)))) pa_nil)))))
      (pss_cons (ps_set (i := 6) scLaw.nd rfl (Or.inl rfl) (pe_cal c_law_fraction hr (by rfl) (pa_cons (pv 1) pa_nil)))
      (pss_cons (ps_set (i := 7) scLaw.nd rfl (Or.inl rfl) (pe_cal c_law_fraction hr (by rfl) (pa_cons (pv 1) pa_nil)))
      (pss_cons (ps_set (i := 8) scLaw.nd rfl (Or.inr rfl) (pe_cal c_law_times hr (by rfl) (pa_cons (pv 6) (pa_cons (pv 7) pa_nil))))
      (pss_cons (ps_set (i := 9) scLaw.nd rfl (Or.inl rfl) (pe_cal c_interest hr (by rfl) (pa_cons (pv 6) (pa_cons (pv 7) (pa_cons (pv 4) (pa_cons (pv 2) (pa_cons (pv 3) pa_nil)))))))
      (pss_cons (ps_if (pt_cmpR (op_neD hr.units) (pv 9) (pe_cal c_law_times hr (by rfl) (pa_cons (pv 8) (pa_cons (pe_cal c_law_part hr (by rfl) (pa_cons (pv 4) (pa_cons (pv 2) (pa_cons (pv 3) pa_nil)))) pa_nil))) (nomark _)) (pss_one (ps_ret pe_bl)) pss_nil)
      (pss_cons (ps_set (i := 10) scLaw.nd rfl (Or.inl rfl) (pe_callTy call_list_of (by rfl) z_list (by decide +kernel) (pa_cons (pv 5) pa_nil)))
      (pss_cons (ps_set (i := 11) scLaw.nd rfl (Or.inl rfl) (pe_cal c_interests hr (by rfl) (pa_cons (pv 6) (pa_cons (pv 7) (pa_cons (pv 4) (pa_cons (pv 10) pa_nil))))))
      (pss_cons (ps_setLc (i := 12) (own := [("at", 15)]) (g := gName 15) (tt := tYes) rfl scLaw.nd rfl rfl (sw_true rfl rfl rfl (by decide +kernel)) (pi_range1 (by rfl) z_range (pa_cons (pe_op op_sub (pe_callB call_len_seq (by rfl) z_len PySem.boot_len (pa_cons (pv 5) pa_nil)) pe_int) pa_nil)) (blkOk_by (own := [("at", 15)]) (N := ["script", "state", "start", "end", "count", "days", "principal", "rate", "scale", "whole", "given", "rows", "due", "found", "row", "at"]) (sc := defScope sLaw) (by decide +kernel)) (fun _ _ _ _ _ => (pg_name (i := 15) scLaw.nd rfl (Or.inl rfl))) (fun _ _ _ _ _ => pts_nil) (fun _ _ _ _ _ => (pe_cal c_law_times hr (by rfl) (pa_cons (pv 8) (pa_cons (pe_cal c_law_part hr (by rfl) (pa_cons (pv 4) (pa_cons (pe_ix (ix_lstK (K := K) rfl) (pv 5) (pv 15) (fun _ _ => rfl)) (pa_cons (pe_ix (ix_lstK (K := K) rfl) (pv 5) (pe_op op_add (pv 15) pe_int) (fun _ _ => rfl)) pa_nil)))) pa_nil)))))
      (pss_cons (ps_if (PW.pt (pw_or (pt_not (pt_val (pe_callB call_isi (by rfl) z_isinstance (by decide +kernel) (pa_cons (pv 11) (pa_cons (pe_bltn (v := .ty "list") (by rfl) z_list (by decide +kernel) rfl) pa_nil))))) (pw_or (pt_cmpR (op_neD hr.units) (pv 11) (pv 12) (nomark _)) (pw_or1 (pt_cmpR (op_neD hr.units) (pv 10) (pv 5) (nomark _)))))) (pss_one (ps_ret pe_bl)) pss_nil)
      (pss_cons (ps_set (i := 13) scLaw.nd rfl (Or.inl rfl) (pe_tup (pa_cons pe_int (pa_cons pe_int pa_nil))))
      (pss_cons (ps_for PassesOwn.never rfl (pi_list (pv 11)) (pg_name (i := 14) scLaw.nd rfl (Or.inl rfl)) (pss_one (ps_set (i := 13) scLaw.nd rfl (Or.inl rfl) (pe_cal c_law_plus hr (by rfl) (pa_cons (pv 13) (pa_cons (pv 14) pa_nil))))))
      (pss_cons (ps_if (PW.pt (pw_or (pt_cmpR (op_neD hr.units) (pv 13) (pv 9) (nomark _)) (pw_or (pt_cmpR (op_neD hr.units) (pe_cal c_interests hr (by rfl) (pa_cons (pv 6) (pa_cons (pv 7) (pa_cons (pv 4) (pa_cons (pe_lst pa_nil) pa_nil))))) (pe_lst pa_nil) (nomark _)) (pw_or1 (pt_cmpR (op_neD hr.units) (pe_cal c_interests hr (by rfl) (pa_cons (pv 6) (pa_cons (pv 7) (pa_cons (pv 4) (pa_cons (pe_lst (pa_cons pe_int pa_nil)) pa_nil))))) (pe_lst pa_nil) (nomark _)))))) (pss_one (ps_ret pe_bl)) pss_nil)
      (pss_cons (ps_if (pt_not (pt_val (pe_cal c_law_refuses hr (by rfl) (pa_cons (pe_glob (v := .ref a_interests) (by rfl) m_interests rfl) (pa_cons (pe_lst (pa_cons (pv 6) (pa_cons (pv 7) (pa_cons pe_str (pa_cons (pv 5) pa_nil))))) (pa_cons pe_str pa_nil)))))) (pss_one (ps_ret pe_bl)) pss_nil)
      (pss_one (ps_ret (pe_cal c_law_refuses hr (by rfl) (pa_cons (pe_glob (v := .ref a_interests) (by rfl) m_interests rfl) (pa_cons (pe_lst (pa_cons (pv 6) (pa_cons (pv 7) (pa_cons (pv 4) (pa_cons (pe_op op_cat (pv 5) (pe_lst (pa_cons (pe_op op_sub (pv 2) pe_int) pa_nil))) pa_nil))))) (pa_cons pe_str pa_nil)))))))))))))))))))))))), ?_⟩
    have neM : ∀ {H' : Hp} {M : Addr} {d : Addr}, St5 K H' d → H' M = none → M ≠ d := fun hd hM q => by
      obtain ⟨ys, hy⟩ := hd.lst
      rw [q, hy] at hM
      cases hM
    refine ⟨_, rfl, a, ns, rfl, hS, fun d H0 s0 n0 D0 => ?_⟩
    refine ⟨_, rfl, d, 40000, rfl, by decide, by decide, D0, fun st H1 d0 dm b1 D1 => ?_⟩
    refine ⟨_, rfl, _, _, rfl, rfl, _, rfl, d, 900, rfl, by decide, by decide, D1, fun w1 H2 w0 w9 b2 D2 => ⟨_, _, rfl, rfl, ?_⟩⟩
    dsimp only [gName, tSeq]
    obtain ⟨en, hen⟩ : ∃ en : Int, en = st + 1 + w1 := ⟨_, rfl⟩
    rw [← hen]
    have se : st < en := by omega
    have em : en < 2 ^ 40 := by omega
    refine ⟨by show 3 ≤ sizeLine; decide, fun N nN => ⟨_, rfl, d, 3, rfl, by decide, by decide, D2.same (Same.new nN), fun v2 H4 u0 u3 b4 D4 => ?_⟩⟩
    obtain ⟨c, hc, hcc⟩ := pick3 v2 u0 u3
    refine ⟨N, _, _, _, rfl, rfl, b4.seq (neM D2 nN) (SqL.of upd_same), hc, ?_⟩
    dsimp only [gName, tSeq]
    refine ⟨_, rfl, _, rfl, _, rfl, d, 7, rfl, by decide, by decide, D4, fun v3 H5 m0 m7 b5 D5 => ⟨_, _, rfl, rfl, st, en, 1 + v3, rfl, d0, se, by omega, by omega, by omega, fun L H6 T e6 ok hL => ?_⟩⟩
    dsimp only [gName, tSeq]
    have D6 : St5 K H6 d := D5.same e6
    have neL : L ≠ d := D6.ne hL
    refine ⟨_, rfl, d, rfl, D6, fun p r H7 b7 D7 zr hp => ?_⟩
    dsimp only [gName, tSeq]
    have hL := b7 _ _ neL hL
    refine ⟨_, rfl, d, rfl, D7, fun q u H8 b8 D8 zu hq => ?_⟩
    dsimp only [gName, tSeq]
    have hL := b8 _ _ neL hL
    have hp := b8.tup5 D7 hp
    have hT := ok.bd (by omega) se
    have hup := sched_asc ok d0 (by omega) (by omega) em
    have hl := sched_len st en (1 + v3) T
    have hT2 : (sched st en (1 + v3) T).length - 1 = T := by omega
    have h0 := sched_at (s := st) (e := en) (m := 1 + v3) (T := T) (j := 0) (Nat.zero_le _)
    have hE := sched_at (s := st) (e := en) (m := 1 + v3) (T := T) (j := T) (Nat.le_refl _)
    rw [sday_zero (by omega)] at h0
    rw [sday_end] at hE
    generalize hns : sched st en (1 + v3) T = days at hL hup hl hT2 h0 hE ok
    have zrs := (sz_mul2 zr zu).mono (m := 40) (by decide)
    have zr3 := zr.mono (m := 300) (by decide)
    have zu3 := zu.mono (m := 300) (by decide)
    refine st_setQ (i := 8) (r := r * u) (H := H8) (eq_op (f := fun r s => r * s) (ok := fun _ _ => True) (eq_var (i := 6) rfl hp) (eq_var (i := 7) rfl hq) (zr.mono (by decide)) (zu.mono (by decide)) trivial) (Same.refl H8) fun sc H9 e9 hsc => ?_
    have hL := e9 _ _ hL
    have hp := e9 _ _ hp
    have hq := e9 _ _ hq
    have zp := sz_prt (c := c) (s := st) (e := en) d0 (by omega) (by omega) em
    dsimp only [tSeq]
    refine st_setQ (i := 9) (r := r * u * prt c st en) (H := H9) (eq_int (eq_var (i := 6) rfl hp) (eq_var (i := 7) rfl hq) (ei_var (i := 4) rfl) (ei_var (i := 2) rfl) (ei_var (i := 3) rfl) zr3 zu3 hcc d0 (by omega) em) (Same.refl H9) fun wh H10 e10 hwh => ?_
    have hL := e10 _ _ hL
    have hp := e10 _ _ hp
    have hq := e10 _ _ hq
    have hsc := e10 _ _ hsc
    refine st_no (H := H10) (et_ne (K := K) (eq_var (i := 9) rfl hwh) (eq_op (f := fun r s => r * s) (ok := fun _ _ => True) (eq_var (i := 8) rfl hsc) (eq_part (ei_var (i := 4) rfl) (ei_var (i := 2) rfl) (ei_var (i := 3) rfl) hcc d0 (by omega) em) (zrs.mono (by decide)) (zp.mono (by decide)) trivial)) (Same.refl H10) fun H11 e11 => ?_
    have hL := e11 _ _ hL
    have hp := e11 _ _ hp
    have hq := e11 _ _ hq
    have hsc := e11 _ _ hsc
    have hwh := e11 _ _ hwh
    dsimp only [tNext, tSeq]
    refine ⟨_, rfl, _, _, rfl, .inl (SqL.of hL), fun G nG => ?_⟩
    have eG : Same H11 (upd H11 G (.lst (days.map V.int))) := Same.new nG
    have hG : (upd H11 G (.lst (days.map V.int))) G = some (.lst (days.map V.int)) := upd_same
    have hL := eG _ _ hL
    have hp := eG _ _ hp
    have hq := eG _ _ hq
    have hsc := eG _ _ hsc
    have hwh := eG _ _ hwh
    generalize upd H11 G (.lst (days.map V.int)) = H12 at eG hG hL hp hq hsc hwh ⊢
    dsimp only [gName, tSeq]
    refine st_setQs (i := 11) (H := H12) (eqs_ints (ns := days) (eq_var (i := 6) rfl hp) (eq_var (i := 7) rfl hq) (ei_var (i := 4) rfl) (els_var (i := 10) rfl hG) zr3 zu3 hcc (by omega) hup) (Same.refl H12) fun R H13 acc e13 hR qR => ?_
    have hG := e13 _ _ hG
    have hL := e13 _ _ hL
    have hp := e13 _ _ hp
    have hq := e13 _ _ hq
    have hsc := e13 _ _ hsc
    have hwh := e13 _ _ hwh
    dsimp only [tSeq]
    refine ⟨_, rfl, L, _, rfl, .inl (SqL.of hL), _, _, rfl, rfl, (T : Int), by show [V.int (((days.map V.int).length : Int) - 1)] = _; rw [List.length_map, hl, Int.natCast_succ, Int.add_sub_cancel], by omega, by omega, fun D nD => ?_⟩
    refine lc_range (lo := 0) (n := T) (fun i H' => ∃ acc2, H' D = some (.lst acc2) ∧ Same H13 H' ∧ QAt H' (intr (r * u) c days) i acc2) ⟨[], upd_same, Same.new nD, rfl, fun j hj => absurd hj (Nat.not_lt_zero _)⟩ ?_ ?_
    · rintro i H' hi ⟨acc2, hD, s', hQ2⟩
      obtain ⟨x, hx⟩ : ∃ x, days[i]? = some x := ⟨_, List.getElem?_eq_getElem (by omega)⟩
      obtain ⟨y, hy⟩ : ∃ y, days[i + 1]? = some y := ⟨_, List.getElem?_eq_getElem (by omega)⟩
      obtain ⟨x0, xy, y1⟩ := hup i x y hx hy
      have zxy := sz_prt (c := c) (s := x) (e := y) x0 (by omega) (by omega) y1
      refine ⟨rfl, ?_⟩
      dsimp only [tYes]
      rw [if_pos rfl]
      refine eq_op (f := fun r s => r * s) (ok := fun _ _ => True) (H := H') (eq_var (i := 8) rfl (s' _ _ hsc)) (eq_part (x := x) (y := y) (ei_var (i := 4) rfl) (ei_ixL (i := 5) (j := i) rfl (s' _ _ hL) (ei_is (ei_var (i := 15) rfl) (by rw [Int.zero_add])) (by rw [List.getElem?_map, hx]; rfl)) (ei_ixL (i := 5) (j := i + 1) rfl (s' _ _ hL) (ei_is (ei_add (ei_var (i := 15) rfl) ei_c) (congrArg V.int (by rw [Int.zero_add]; rfl))) (by rw [List.getElem?_map, hy]; rfl)) hcc x0 xy y1) (zrs.mono (by decide)) (zxy.mono (by decide)) trivial _ (Same.refl _) _ fun t H14 e14 ht => ?_
      refine ⟨acc2, e14 _ _ hD, Nat.lt_of_lt_of_le (show acc2.length < 2000 by rw [hQ2.1]; omega) (by rw [sizeLine_eq]; decide), _, upd_same, ?_, ?_⟩
      · intro c o hc
        rw [upd_ne (fun q => by rw [q, nD] at hc; cases hc)]
        exact e14 _ _ (s' _ _ hc)
      · have ht : H14 t = some (nd (intr (r * u) c days i)) := by
          rw [intr_at hx hy]
          exact ht
        exact QAt.fill ((hQ2.same e14).snoc ht) (e14 _ _ hD)
    rintro H14 ⟨acc2, hD, e14, hQ2⟩
    have hR := e14 _ _ hR
    have qR := qR.same e14
    rw [hT2] at qR
    have hG := e14 _ _ hG
    have hL := e14 _ _ hL
    have hp := e14 _ _ hp
    have hq := e14 _ _ hq
    have hwh := e14 _ _ hwh
    dsimp only [gName, tSeq]
    refine st_no (H := H14) (et_or (et_isL (K := K) (j := 11) rfl hR) (et_or (et_neQs (K := K) (eqs_var (i := 11) rfl hR qR) (eqs_var (i := 12) rfl hD hQ2)) (et_neInts (K := K) (i := 10) (j := 5) rfl rfl hG hL))) (Same.refl H14) fun H15 e15 => ?_
    dsimp only [tNext, tSeq]
    refine st_setQ (i := 13) (r := 0) (H := H14) (eq_pair (r := 0) ei_c ei_c rfl rfl) e15 fun p13 H16 e16 hp13 => ?_
    have hR := e16 _ _ hR
    have qR := qR.same e16
    have hL := e16 _ _ hL
    have hp := e16 _ _ hp
    have hq := e16 _ _ hq
    have hwh := e16 _ _ hwh
    dsimp only [tSeq]
    have hacc : acc.length = T := qR.1
    have z0 : (0 : Rat) = r * u * prt c (days.getD 0 0) (days.getD 0 0) := by
      rw [prt_self]
      grind
    refine ⟨_, rfl, R, rfl, ⟨_, SqL.of hR⟩, for_list (K := K) (a := R) (xs := acc) (fun i σ' H' => ∃ (y14 : Option V) (pf : Addr), σ' = [some (.ref a), some (.ref d), some (.int st), some (.int en), some (.str c), some (.ref L), some (.ref p), some (.ref q), some (.ref sc), some (.ref wh), some (.ref G), some (.ref R), some (.ref D), some (.ref pf), y14, none] ∧ i ≤ T ∧ H' pf = some (nd (r * u * prt c (days.getD 0 0) (days.getD i 0))) ∧ Same H16 H') ⟨none, p13, rfl, Nat.zero_le _, by rw [← z0]; exact hp13, Same.refl _⟩ (fun i σ' H' _ ⟨_, _, _, _, _, s'⟩ => SqL.of (s' _ _ hR)) ?_ ?_⟩
    · rintro i x σ' H' hx ⟨y14, pf, rfl, hiT, hpf, s'⟩
      have hi : i < acc.length := (List.getElem?_eq_some_iff.mp hx).1
      obtain ⟨t, ht1, ht2⟩ := qR.2 i (by omega)
      rw [hx] at ht1
      cases ht1
      obtain ⟨xi, hxi⟩ : ∃ x, days[i]? = some x := ⟨_, List.getElem?_eq_getElem (by omega)⟩
      obtain ⟨yi, hyi⟩ : ∃ y, days[i + 1]? = some y := ⟨_, List.getElem?_eq_getElem (by omega)⟩
      obtain ⟨x0, xy, y1⟩ := hup i xi yi hxi hyi
      have z1 := sz_mul2 zrs (sz_prt (c := c) (s := days.getD 0 0) (e := days.getD i 0) (by rw [getD_of h0]; exact d0) (by rw [getD_of h0]; omega) (by rw [getD_of hxi]; exact x0) (by rw [getD_of hxi]; omega))
      have z2 : Sz 290 (intr (r * u) c days i) := by
        rw [intr_at hxi hyi]
        exact sz_mul2 zrs (sz_prt (c := c) (s := xi) (e := yi) x0 (by omega) (by omega) y1)
      refine st_setQ (i := 13) (r := r * u * prt c (days.getD 0 0) (days.getD (i + 1) 0)) (H := H') (eq_is (eq_op (f := fun r s => r + s) (ok := fun _ _ => True) (eq_var (i := 13) rfl hpf) (eq_var (i := 14) rfl (s' _ _ ht2)) (z1.mono (by decide)) (z2.mono (by decide)) trivial) (ints_sum i)) (Same.refl H') fun p2 H17 e17 hp2 => ?_
      exact ⟨_, p2, rfl, by omega, hp2, s'.trans e17⟩
    rintro σ' H17 ⟨y14, pf, rfl, _, hpf, s'⟩
    rw [hacc, getD_of h0, getD_of hE] at hpf
    have hL := s' _ _ hL
    have hp := s' _ _ hp
    have hq := s' _ _ hq
    have hwh := s' _ _ hwh
    refine st_no (H := H17) (et_or (et_ne (K := K) (eq_var (i := 13) rfl hpf) (eq_var (i := 9) rfl hwh)) (et_or (et_neQs (K := K) (eqs_ints (ns := []) (eq_var (i := 6) rfl hp) (eq_var (i := 7) rfl hq) (ei_var (i := 4) rfl) els_nil zr3 zu3 hcc (by decide) (fun j x y h => nomatch h)) eqs_nil) (et_neQs (K := K) (eqs_ints (ns := [5]) (eq_var (i := 6) rfl hp) (eq_var (i := 7) rfl hq) (ei_var (i := 4) rfl) (els1 ei_c) zr3 zu3 hcc (by decide) (fun j x y h1 h2 => by simp at h2)) eqs_nil))) (Same.refl H17) fun H18 e18 => ?_
    obtain ⟨y1v, hy1⟩ : ∃ y, days[0 + 1]? = some y := ⟨_, List.getElem?_eq_getElem (by omega)⟩
    dsimp only [tNext, tSeq]
    refine st_no (H := H17) (et_not (b := true) (et_val (ei_refusesH ei_c (els4 (ei_var (i := 6) rfl) (ei_var (i := 7) rfl) ei_c (ei_var (i := 5) rfl)) rfl (fun H' e' => xW _ H' ⟨p, q, L, r, u, "other", days, 0, st, y1v, rfl, e' _ _ hp, e' _ _ hq, zr3, zu3, e' _ _ hL, by omega, h0, hy1, hO, fun j hj => absurd hj (Nat.not_lt_zero _)⟩ rfl) (.inr ⟨rfl, rfl⟩)))) e18 fun H19 e19 => ?_
    refine ei_refusesH4 (H := H17) (C := CD) (ls := (days ++ [st - 1]).map V.int) ei_c (ei_var (i := 6) rfl) (ei_var (i := 7) rfl) (ei_var (i := 4) rfl) (els_is (els_catB (i := 5) rfl hL (ei_sub (ei_var (i := 2) rfl) ei_c) (by rw [List.length_map]; omega)) (by rw [List.map_append]; rfl)) (fun M H' e' hM => xD _ H' ⟨p, q, M, r, u, c, days ++ [st - 1], T, en, st - 1, rfl, e' _ _ hp, e' _ _ hq, zr3, zu3, hM, by rw [List.length_append, hl]; simp; omega, ?_, ?_, ⟨hcc, .inr (by omega)⟩, fun j hj => ⟨hcc, fun x y hx hy => ?_⟩⟩ rfl) (.inl ⟨rfl, rfl⟩) H19 e19 _ fun H20 _ => out _
    · rw [List.getElem?_append_left (by omega)]
      exact hE
    · rw [List.getElem?_append_right (by omega), hl, Nat.sub_self]
      rfl
    · rw [List.getElem?_append_left (by omega)] at hx hy
      exact hup j x y hx hy
end
end Cs
set_option maxHeartbeats 4000000
namespace Cs
open PySem PySem.Spec PyProof.Rows L2
local macro_rules | `(tactic| walk_at "rd") => `(tactic| (first
  | (refine ⟨_, rfl, ?_⟩)
  | (refine ⟨_, _, rfl, rfl, ?_⟩)
  | (refine .inl ⟨_, rfl, ?_⟩)
  | (refine .inr ⟨_, rfl, ?_⟩)
  | (refine ⟨_, _, _, _, rfl, rfl, SqL.of upd_same, rfl, ?_⟩)
  | (refine ⟨_, _, _, _, rfl, rfl, upd_same, rfl, ?_⟩)
  | (refine ⟨_, ?xs, _, ?v, rfl, rfl, ?h, ?x, ?_⟩; (case h => first | exact SqL.of (by assumption) | exact SqT.of (by assumption) | assumption); (case x => first | rfl | exact atI_nat (j := 0) rfl | exact atI_nat (j := 1) rfl))))
local macro_rules | `(tactic| walk_at "isi") => `(tactic| (first
  | (refine ⟨_, _, _, _, _, rfl, .ty _, .base (.int _), kit_ty kit_it, ?_⟩)
  | (refine ⟨_, _, _, _, _, rfl, .ty _, .base (.int _), kit_ty kit_ib, ?_⟩)
  | (refine ⟨_, _, _, _, _, rfl, .ty _, .base (.int _), kit_ty kit_ii, ?_⟩)
  | (refine ⟨_, _, _, _, _, rfl, .ty _, .base (.bl _), kit_ty kit_bt, ?_⟩)
  | (refine ⟨_, _, _, _, _, rfl, .ty _, .base (.bl _), kit_ty kit_bb, ?_⟩)
  | (refine ⟨_, _, _, _, _, rfl, .ty _, .base (.bl _), kit_ty kit_bi, ?_⟩)))
theorem bdCheck (kV doc pm : Value) (an : Option Addr) (cdv ct : Value) (us : List Value) (hl : us.length = (["day"] : List Str).length) : bindArgs (PySem.W.fnOf "_check_day" "_check_day" (defArgs sCheck) (defBody sCheck) (defScope sCheck) .none kV doc pm an cdv ct) ⟨us, []⟩ = pure ((["day"] : List Str).zip us) := match us, hl with | [_], _ => rfl
theorem bdMLen (kV doc pm : Value) (an : Option Addr) (cdv ct : Value) (us : List Value) (hl : us.length = (["month"] : List Str).length) : bindArgs (PySem.W.fnOf "month_length" "month_length" (defArgs sMLen) (defBody sMLen) (defScope sMLen) .none kV doc pm an cdv ct) ⟨us, []⟩ = pure ((["month"] : List Str).zip us) := match us, hl with | [_], _ => rfl
theorem bdDateOf (kV doc pm : Value) (an : Option Addr) (cdv ct : Value) (us : List Value) (hl : us.length = (["day"] : List Str).length) : bindArgs (PySem.W.fnOf "date_of" "date_of" (defArgs sDateOf) (defBody sDateOf) (defScope sDateOf) .none kV doc pm an cdv ct) ⟨us, []⟩ = pure ((["day"] : List Str).zip us) := match us, hl with | [_], _ => rfl
theorem bdPlus (kV doc pm : Value) (an : Option Addr) (cdv ct : Value) (us : List Value) (hl : us.length = (["a", "b"] : List Str).length) : bindArgs (PySem.W.fnOf "plus" "plus" (defArgs sPlus) (defBody sPlus) (defScope sPlus) .none kV doc pm an cdv ct) ⟨us, []⟩ = pure ((["a", "b"] : List Str).zip us) := match us, hl with | [_, _], _ => rfl
theorem bdMinus (kV doc pm : Value) (an : Option Addr) (cdv ct : Value) (us : List Value) (hl : us.length = (["a", "b"] : List Str).length) : bindArgs (PySem.W.fnOf "minus" "minus" (defArgs sMinus) (defBody sMinus) (defScope sMinus) .none kV doc pm an cdv ct) ⟨us, []⟩ = pure ((["a", "b"] : List Str).zip us) := match us, hl with | [_, _], _ => rfl
theorem bdTimes (kV doc pm : Value) (an : Option Addr) (cdv ct : Value) (us : List Value) (hl : us.length = (["a", "b"] : List Str).length) : bindArgs (PySem.W.fnOf "times" "times" (defArgs sTimes) (defBody sTimes) (defScope sTimes) .none kV doc pm an cdv ct) ⟨us, []⟩ = pure ((["a", "b"] : List Str).zip us) := match us, hl with | [_, _], _ => rfl
theorem bdOver (kV doc pm : Value) (an : Option Addr) (cdv ct : Value) (us : List Value) (hl : us.length = (["a", "b"] : List Str).length) : bindArgs (PySem.W.fnOf "over" "over" (defArgs sOver) (defBody sOver) (defScope sOver) .none kV doc pm an cdv ct) ⟨us, []⟩ = pure ((["a", "b"] : List Str).zip us) := match us, hl with | [_, _], _ => rfl
theorem bdAddM (kV doc pm : Value) (an : Option Addr) (cdv ct : Value) (us : List Value) (hl : us.length = (["day", "count"] : List Str).length) : bindArgs (PySem.W.fnOf "add_months" "add_months" (defArgs sAddM) (defBody sAddM) (defScope sAddM) .none kV doc pm an cdv ct) ⟨us, []⟩ = pure ((["day", "count"] : List Str).zip us) := match us, hl with | [_, _], _ => rfl
theorem bdSched (kV doc pm : Value) (an : Option Addr) (cdv ct : Value) (us : List Value) (hl : us.length = (["start", "end", "months"] : List Str).length) : bindArgs (PySem.W.fnOf "schedule" "schedule" (defArgs sSched) (defBody sSched) (defScope sSched) .none kV doc pm an cdv ct) ⟨us, []⟩ = pure ((["start", "end", "months"] : List Str).zip us) := match us, hl with | [_, _, _], _ => rfl
theorem bdDayOf (kV doc pm : Value) (an : Option Addr) (cdv ct : Value) (us : List Value) (hl : us.length = (["year", "month", "number"] : List Str).length) : bindArgs (PySem.W.fnOf "day_of" "day_of" (defArgs sDayOf) (defBody sDayOf) (defScope sDayOf) .none kV doc pm an cdv ct) ⟨us, []⟩ = pure ((["year", "month", "number"] : List Str).zip us) := match us, hl with | [_, _, _], _ => rfl
theorem bdInterest (kV doc pm : Value) (an : Option Addr) (cdv ct : Value) (us : List Value) (hl : us.length = (["principal", "rate", "count", "start", "end"] : List Str).length) : bindArgs (PySem.W.fnOf "interest" "interest" (defArgs sInterest) (defBody sInterest) (defScope sInterest) .none kV doc pm an cdv ct) ⟨us, []⟩ = pure ((["principal", "rate", "count", "start", "end"] : List Str).zip us) := match us, hl with | [_, _, _, _, _], _ => rfl
theorem bdInterests (kV doc pm : Value) (an : Option Addr) (cdv ct : Value) (us : List Value) (hl : us.length = (["principal", "rate", "count", "days"] : List Str).length) : bindArgs (PySem.W.fnOf "interests" "interests" (defArgs sInterests) (defBody sInterests) (defScope sInterests) .none kV doc pm an cdv ct) ⟨us, []⟩ = pure ((["principal", "rate", "count", "days"] : List Str).zip us) := match us, hl with | [_, _, _, _], _ => rfl
theorem bdPart (kV doc pm : Value) (an : Option Addr) (cdv ct : Value) (us : List Value) (hl : us.length = (["count", "start", "end"] : List Str).length) : bindArgs (PySem.W.fnOf "part" "part" (defArgs sPart) (defBody sPart) (defScope sPart) .none kV doc pm an cdv ct) ⟨us, []⟩ = pure ((["count", "start", "end"] : List Str).zip us) := match us, hl with | [_, _, _], _ => rfl
theorem bdNumberOf (kV doc pm : Value) (an : Option Addr) (cdv ct : Value) (us : List Value) (hl : us.length = (["count", "day"] : List Str).length) : bindArgs (PySem.W.fnOf "_number_of" "_number_of" (defArgs sNumberOf) (defBody sNumberOf) (defScope sNumberOf) .none kV doc pm an cdv ct) ⟨us, []⟩ = pure ((["count", "day"] : List Str).zip us) := match us, hl with | [_, _], _ => rfl
theorem bdState (kV doc pm : Value) (an : Option Addr) (cdv ct : Value) (us : List Value) (hl : us.length = (["script"] : List Str).length) : bindArgs (PySem.W.fnOf "_law_state" "_law_state" (defArgs sState) (defBody sState) (defScope sState) .none kV doc pm an cdv ct) ⟨us, []⟩ = pure ((["script"] : List Str).zip us) := match us, hl with | [_], _ => rfl
theorem bdDraw (kV doc pm : Value) (an : Option Addr) (cdv ct : Value) (us : List Value) (hl : us.length = (["state", "many"] : List Str).length) : bindArgs (PySem.W.fnOf "_law_draw" "_law_draw" (defArgs sDraw) (defBody sDraw) (defScope sDraw) .none kV doc pm an cdv ct) ⟨us, []⟩ = pure ((["state", "many"] : List Str).zip us) := match us, hl with | [_, _], _ => rfl
theorem bdLengths (kV doc pm : Value) (an : Option Addr) (cdv ct : Value) (us : List Value) (hl : us.length = ([] : List Str).length) : bindArgs (PySem.W.fnOf "_law_lengths" "_law_lengths" (defArgs sLengths) (defBody sLengths) (defScope sLengths) .none kV doc pm an cdv ct) ⟨us, []⟩ = pure (([] : List Str).zip us) := match us, hl with | [], _ => rfl
theorem bdLDate (kV doc pm : Value) (an : Option Addr) (cdv ct : Value) (us : List Value) (hl : us.length = (["day"] : List Str).length) : bindArgs (PySem.W.fnOf "_law_date" "_law_date" (defArgs sLDate) (defBody sLDate) (defScope sLDate) .none kV doc pm an cdv ct) ⟨us, []⟩ = pure ((["day"] : List Str).zip us) := match us, hl with | [_], _ => rfl
theorem bdRefuses (kV doc pm : Value) (an : Option Addr) (cdv ct : Value) (us : List Value) (hl : us.length = (["call", "arguments", "wanted"] : List Str).length) : bindArgs (PySem.W.fnOf "_law_refuses" "_law_refuses" (defArgs sRefuses) (defBody sRefuses) (defScope sRefuses) .none kV doc pm an cdv ct) ⟨us, []⟩ = pure ((["call", "arguments", "wanted"] : List Str).zip us) := match us, hl with | [_, _, _], _ => rfl
theorem bdLowest (kV doc pm : Value) (an : Option Addr) (cdv ct : Value) (us : List Value) (hl : us.length = (["p", "q"] : List Str).length) : bindArgs (PySem.W.fnOf "_law_lowest" "_law_lowest" (defArgs sLowest) (defBody sLowest) (defScope sLowest) .none kV doc pm an cdv ct) ⟨us, []⟩ = pure ((["p", "q"] : List Str).zip us) := match us, hl with | [_, _], _ => rfl
theorem bdLPlus (kV doc pm : Value) (an : Option Addr) (cdv ct : Value) (us : List Value) (hl : us.length = (["a", "b"] : List Str).length) : bindArgs (PySem.W.fnOf "_law_plus" "_law_plus" (defArgs sLPlus) (defBody sLPlus) (defScope sLPlus) .none kV doc pm an cdv ct) ⟨us, []⟩ = pure ((["a", "b"] : List Str).zip us) := match us, hl with | [_, _], _ => rfl
theorem bdLMinus (kV doc pm : Value) (an : Option Addr) (cdv ct : Value) (us : List Value) (hl : us.length = (["a", "b"] : List Str).length) : bindArgs (PySem.W.fnOf "_law_minus" "_law_minus" (defArgs sLMinus) (defBody sLMinus) (defScope sLMinus) .none kV doc pm an cdv ct) ⟨us, []⟩ = pure ((["a", "b"] : List Str).zip us) := match us, hl with | [_, _], _ => rfl
theorem bdLNumber (kV doc pm : Value) (an : Option Addr) (cdv ct : Value) (us : List Value) (hl : us.length = (["count", "day"] : List Str).length) : bindArgs (PySem.W.fnOf "_law_number" "_law_number" (defArgs sLNumber) (defBody sLNumber) (defScope sLNumber) .none kV doc pm an cdv ct) ⟨us, []⟩ = pure ((["count", "day"] : List Str).zip us) := match us, hl with | [_, _], _ => rfl
theorem bdLPart (kV doc pm : Value) (an : Option Addr) (cdv ct : Value) (us : List Value) (hl : us.length = (["count", "start", "end"] : List Str).length) : bindArgs (PySem.W.fnOf "_law_part" "_law_part" (defArgs sLPart) (defBody sLPart) (defScope sLPart) .none kV doc pm an cdv ct) ⟨us, []⟩ = pure ((["count", "start", "end"] : List Str).zip us) := match us, hl with | [_, _, _], _ => rfl
theorem bdLTimes (kV doc pm : Value) (an : Option Addr) (cdv ct : Value) (us : List Value) (hl : us.length = (["a", "b"] : List Str).length) : bindArgs (PySem.W.fnOf "_law_times" "_law_times" (defArgs sLTimes) (defBody sLTimes) (defScope sLTimes) .none kV doc pm an cdv ct) ⟨us, []⟩ = pure ((["a", "b"] : List Str).zip us) := match us, hl with | [_, _], _ => rfl
theorem bdLFrac (kV doc pm : Value) (an : Option Addr) (cdv ct : Value) (us : List Value) (hl : us.length = (["state"] : List Str).length) : bindArgs (PySem.W.fnOf "_law_fraction" "_law_fraction" (defArgs sLFrac) (defBody sLFrac) (defScope sLFrac) .none kV doc pm an cdv ct) ⟨us, []⟩ = pure ((["state"] : List Str).zip us) := match us, hl with | [_], _ => rfl
theorem bdFraction (T : Addr) (kV doc pm : Value) (an : Option Addr) (cdv ct : Value) (us its : List Value) (hl : us.length = 2) (hi : its.length = ([V.int 1]).length) :
      ∃ k, bindArgs (PySem.W.fnOf "fraction" "fraction" (defArgs sFraction) (defBody sFraction) (defScope sFraction) (.ref T) kV doc pm an cdv ct) ⟨us, []⟩ = seqItems? (.ref T) >>= k ∧ k (some its.toArray) = pure ((["p", "q"] : List Str).zip (us ++ its.drop 1)) := match us, its, hl, hi with | [_, _], [_], _, _ => ⟨_, rfl, rfl⟩
theorem bdFraction1 (T : Addr) (kV doc pm : Value) (an : Option Addr) (cdv ct : Value) (us its : List Value) (hl : us.length = 1) (hi : its.length = ([V.int 1]).length) :
      ∃ k, bindArgs (PySem.W.fnOf "fraction" "fraction" (defArgs sFraction) (defBody sFraction) (defScope sFraction) (.ref T) kV doc pm an cdv ct) ⟨us, []⟩ = seqItems? (.ref T) >>= k ∧ k (some its.toArray) = pure ((["p", "q"] : List Str).zip (us ++ its.drop 0)) := match us, its, hl, hi with | [_], [_], _, _ => ⟨_, rfl, rfl⟩
theorem fr1 {K : PySem.W.Frag} {mg : Str → Option Value} (g : FunD2 K mg "fraction" sFraction ["p", "q"]) : ∃ (f : Addr) (fd : FuncData), FunD K "fraction" "fraction" (defArgs sFraction) (defBody sFraction) (defScope sFraction) [.int 1] [] f fd ∧ mg "fraction" = some (.ref f) ∧ PySem.W.keepIn K (.ref f) = true := by
  obtain ⟨f, fd, F, a, k, _⟩ := g
  exact ⟨f, fd, F, a, k⟩
theorem all_mk {l : PySem.W.OpenLaw} {w : World} {K : PySem.W.Frag} {h : Heap} {mg : Str → Option Value} {fa : Addr} (X : K.In h) (G : h.Ns mainGlobals mg) (hfa : mg "law" = some (.ref fa))
    (gCheck : FunG K mg "_check_day" sCheck ["day"])
    (gMLen : FunG K mg "month_length" sMLen ["month"])
    (gDateOf : FunG K mg "date_of" sDateOf ["day"])
    (gPlus : FunG K mg "plus" sPlus ["a", "b"])
    (gMinus : FunG K mg "minus" sMinus ["a", "b"])
    (gTimes : FunG K mg "times" sTimes ["a", "b"])
    (gOver : FunG K mg "over" sOver ["a", "b"])
    (gAddM : FunG K mg "add_months" sAddM ["day", "count"])
    (gSched : FunG K mg "schedule" sSched ["start", "end", "months"])
    (gDayOf : FunG K mg "day_of" sDayOf ["year", "month", "number"])
    (gInterest : FunG K mg "interest" sInterest ["principal", "rate", "count", "start", "end"])
    (gInterests : FunG K mg "interests" sInterests ["principal", "rate", "count", "days"])
    (gPart : FunG K mg "part" sPart ["count", "start", "end"])
    (gNumberOf : FunG K mg "_number_of" sNumberOf ["count", "day"])
    (gState : FunG K mg "_law_state" sState ["script"])
    (gDraw : FunG K mg "_law_draw" sDraw ["state", "many"])
    (gLengths : FunG K mg "_law_lengths" sLengths [])
    (gLDate : FunG K mg "_law_date" sLDate ["day"])
    (gRefuses : FunG K mg "_law_refuses" sRefuses ["call", "arguments", "wanted"])
    (gLowest : FunG K mg "_law_lowest" sLowest ["p", "q"])
    (gLPlus : FunG K mg "_law_plus" sLPlus ["a", "b"])
    (gLMinus : FunG K mg "_law_minus" sLMinus ["a", "b"])
    (gLNumber : FunG K mg "_law_number" sLNumber ["count", "day"])
    (gLPart : FunG K mg "_law_part" sLPart ["count", "start", "end"])
    (gLTimes : FunG K mg "_law_times" sLTimes ["a", "b"])
    (gLFrac : FunG K mg "_law_fraction" sLFrac ["state"])
    (gFraction : FunD2 K mg "fraction" sFraction ["p", "q"])
    {f2 : Addr} {od2 an2 : Option Addr} {sl2 : Array (Option Value)} {oc2 kV2 dc2 pm2 cd2 ct2 : Value}
    (a2 : PySem.W.nsIn K mainGlobals "law" = some (some (.ref f2))) (l2 : K.lookup f2 = some ⟨oc2, od2, .func (PySem.W.fnOf "law" "law" (defArgs sLaw) (defBody sLaw) (defScope sLaw) .none kV2 dc2 pm2 an2 cd2 ct2), sl2⟩) (c2 : PySem.W.codeIn K cd2 "law" = true) (k2 : PySem.W.keepIn K (.ref f2) = true)
    (y_len : PySem.W.nsIn K mainGlobals "len" = some none)
    (y_int : PySem.W.nsIn K mainGlobals "int" = some none)
    (y_list : PySem.W.nsIn K mainGlobals "list" = some none)
    (y_range : PySem.W.nsIn K mainGlobals "range" = some none)
    (y_sum : PySem.W.nsIn K mainGlobals "sum" = some none)
    (y_divmod : PySem.W.nsIn K mainGlobals "divmod" = some none)
    (y_abs : PySem.W.nsIn K mainGlobals "abs" = some none)
    (y_min : PySem.W.nsIn K mainGlobals "min" = some none)
    (y_zip : PySem.W.nsIn K mainGlobals "zip" = some none)
    (y_isinstance : PySem.W.nsIn K mainGlobals "isinstance" = some none)
    {CD CW CE : Addr} {t365 t12 tm0 tm1 tm2 tm3 tm4 tm5 tm6 tm7 tm8 tm9 tm10 tm11 : Tok} {zL : Addr} {dZ : Option Addr} {nZ : Nat} {slZ : Array (Option Value)}
    {td0 td1 td2 : Tok} {zD : Addr} {esD : Array DictEntry} {nD : Nat} {nmW qW : Str} {NW : Addr} {bsW : List Value} {snW : List Str} {subW : List Value} {abW : Bool} {colW : Option Bool} {ddW : Option Addr} {mW0 mW1 mW2 mW3 mW5 : Option Value} {fI : Addr} {odI anI : Option Addr} {slI : Array (Option Value)} {ocI kVI dcI pmI cdI ctI : Value}
    (y_gcd : PySem.W.nsIn K mainGlobals "gcd" = some (some (.builtin "math.gcd")))
    (eCD1 : PySem.W.nsIn K mainGlobals "InvalidDay" = some (some (.ref CD)))
    (eCD2 : PySem.W.excIn K CD [.type "ValueError", .type "Exception", .type "BaseException", .type "object"] "ValueError.__new__" = true)
    (eCD3 : PySem.W.keepIn K (.ref CD) = true)
    (eCD4 : PySem.W.subIn K (.ref CD) (.type "BaseException") = some true)
    (eCD5 : PySem.W.typeIn K (.ref CD) = some (.type "type"))
    (eCW1 : PySem.W.nsIn K mainGlobals "InvalidWord" = some (some (.ref CW)))
    (eCW4 : PySem.W.subIn K (.ref CW) (.type "BaseException") = some true)
    (eCW5 : PySem.W.typeIn K (.ref CW) = some (.type "type"))
    (eCW6 : PySem.W.hasDictIn K CW = true)
    (eCD6 : PySem.W.hasDictIn K CD = true)
    (sDD : PySem.W.subIn K (.ref CD) (.ref CD) = some true)
    (sWD : PySem.W.subIn K (.ref CW) (.ref CD) = some false)
    (sWW : PySem.W.subIn K (.ref CW) (.ref CW) = some true)
    (eCE1 : PySem.W.nsIn K mainGlobals "ConsolError" = some (some (.ref CE)))
    (k_DAYS_OF_YEAR : PySem.W.nsIn K mainGlobals "DAYS_OF_YEAR" = some (some (.int 365 t365)))
    (k_MONTHS_OF_YEAR : PySem.W.nsIn K mainGlobals "MONTHS_OF_YEAR" = some (some (.int 12 t12)))
    (k_LENGTHS : PySem.W.nsIn K mainGlobals "LENGTHS" = some (some (.ref zL)))
    (l_LENGTHS : K.lookup zL = some ⟨.type "tuple", dZ, .seq #[.int 31 tm0, .int 28 tm1, .int 31 tm2, .int 30 tm3, .int 31 tm4, .int 30 tm5, .int 31 tm6, .int 31 tm7, .int 30 tm8, .int 31 tm9, .int 30 tm10, .int 31 tm11] nZ, slZ⟩)
    (xL : K.lookup CW = some (excClassObj nmW qW CW NW bsW [.ref CE, .type "ValueError", .type "Exception", .type "BaseException", .type "object"] true snW subW abW colW ddW mW0 mW1 mW2 mW3 mW5 "ValueError.__new__"))
    (saW : PySem.W.findIn K (.ref CW) "__setattr__" = some (some (.builtin "object.__setattr__")))
    (noW : PySem.W.findIn K (.ref CW) "word" = some none)
    (inW : PySem.W.findIn K (.ref CW) "__init__" = some (some (.ref fI)))
    (tyI : PySem.W.typeIn K (.ref fI) = some (.type "function"))
    (lI : K.lookup fI = some ⟨ocI, odI, .func (PySem.W.fnOf "__init__" "InvalidWord.__init__" (defArgs sInit) (defBody sInit) (defScope sInit) .none kVI dcI pmI anI cdI ctI), slI⟩)
    (cI : PySem.W.codeIn K cdI "InvalidWord.__init__" = true)
    (kI : PySem.W.keepIn K (.ref fI) = true)
    (kCW : PySem.W.keepIn K (.ref CW) = true)
    (k_DIV : PySem.W.nsIn K mainGlobals "DIVISORS" = some (some (.ref zD)))
    (l_DIV : K.lookup zD = some ⟨.type "dict", none, .dict esD nD, #[]⟩)
    (v_fixed : PySem.W.nsIn K zD "fixed" = some (some (.int 365 td0)))
    (v_thirty : PySem.W.nsIn K zD "thirty" = some (some (.int 360 td1)))
    (v_plain : PySem.W.nsIn K zD "plain" = some (some (.int 12 td2)))
    (v_other : PySem.W.nsIn K zD "other" = some none)
    (s_DIV : (zD == sysModules) = false)
    (kl_DIV : PySem.W.KeysLit w.params esD.toList) :
    ∃ fd : FuncData, (∀ (s : Shared) (v : Value), BindsTo s fd ⟨[v], []⟩ [("script", v)]) ∧ ∀ base : Heap, K.In base → base.Ns mainGlobals mg → FnOk l.prog w K mg base CX0 8 fa fd ["script"] (spLaw K) := by
  have e := hfa.symm.trans (PySem.W.mg_of X G a2)
  cases e
  have z_len := PySem.W.mg_none_of X G y_len
  have z_int := PySem.W.mg_none_of X G y_int
  have z_list := PySem.W.mg_none_of X G y_list
  have z_range := PySem.W.mg_none_of X G y_range
  have z_sum := PySem.W.mg_none_of X G y_sum
  have z_divmod := PySem.W.mg_none_of X G y_divmod
  have z_abs := PySem.W.mg_none_of X G y_abs
  have z_min := PySem.W.mg_none_of X G y_min
  have z_zip := PySem.W.mg_none_of X G y_zip
  have z_isinstance := PySem.W.mg_none_of X G y_isinstance
  have m_gcd := PySem.W.mg_of X G y_gcd
  refine ⟨PySem.W.fnOf "law" "law" (defArgs sLaw) (defBody sLaw) (defScope sLaw) .none kV2 dc2 pm2 an2 cd2 ct2, fun s v => .of_eq rfl, fun base _ _ => ?_⟩
  have cFr : Cal l.prog w K mg base 1 "fraction" ["p", "q"] spFrac := by
    obtain ⟨f, fd, F, g, kp, b⟩ := gFraction
    exact ⟨f, fd, ok_fraction (k := 0) F m_gcd, g, kp, b⟩
  have EC : ErrC K mg "InvalidDay" CD := ⟨PySem.W.mg_of X G eCD1, eCD2, eCD3, eCD4, eCD5⟩
  have T : Clauses K mg CD CW CE := ⟨PySem.W.mg_of X G eCD1, PySem.W.mg_of X G eCW1, PySem.W.mg_of X G eCE1, PySem.W.exm_ref eCD4 eCD6 eCD5 sDD, PySem.W.exm_ref eCD4 eCD6 eCD5 sWD, PySem.W.exm_ref eCW4 eCW6 eCW5 sWW⟩
  have hL : ∀ H, SqT K H zL (lens.map V.int) := fun H => .inr ⟨_, #[.int 31 tm0, .int 28 tm1, .int 31 tm2, .int 30 tm3, .int 31 tm4, .int 30 tm5, .int 31 tm6, .int 31 tm7, .int 30 tm8, .int 31 tm9, .int 30 tm10, .int 31 tm11], nZ, l_LENGTHS, rfl, rfl, by show 12 ≤ sizeLine; decide, .cons ⟨tm0, rfl⟩ (.cons ⟨tm1, rfl⟩ (.cons ⟨tm2, rfl⟩ (.cons ⟨tm3, rfl⟩ (.cons ⟨tm4, rfl⟩ (.cons ⟨tm5, rfl⟩ (.cons ⟨tm6, rfl⟩ (.cons ⟨tm7, rfl⟩ (.cons ⟨tm8, rfl⟩ (.cons ⟨tm9, rfl⟩ (.cons ⟨tm10, rfl⟩ (.cons ⟨tm11, rfl⟩ (.nil))))))))))))⟩
  have cCheck : Cal l.prog w K mg base 1 "_check_day" ["day"] spCheck := Cal.of gCheck fun F => ok_check (k := 0) F
  have cCheckX := CalX.of (P := l.prog) (w := w) (base := base) gCheck fun F => ok_checkX (k := 0) F EC
  have cMLen : Cal l.prog w K mg base 1 "month_length" ["month"] spMLen := Cal.of gMLen fun F => ok_mlen (k := 0) F (PySem.W.mg_of X G k_MONTHS_OF_YEAR) (PySem.W.mg_of X G k_LENGTHS) hL
  have cMLenX := CalX.of (P := l.prog) (w := w) (base := base) gMLen fun F => ok_mlenX (k := 0) F (PySem.W.mg_of X G k_MONTHS_OF_YEAR) EC
  have cDateOf : Cal l.prog w K mg base 2 "date_of" ["day"] spDateOf := Cal.of gDateOf fun F => ok_dateof (k := 1) F cCheck cMLen (PySem.W.mg_of X G k_DAYS_OF_YEAR) z_divmod
  have cDateOfX := CalX.of (P := l.prog) (w := w) (base := base) gDateOf fun F => ok_dateofX (k := 1) F cCheckX
  have cState : Cal l.prog w K mg base 1 "_law_state" ["script"] (spState K) := Cal.of gState fun F => ok_state (k := 0) F z_list
  have cDraw : Cal l.prog w K mg base 1 "_law_draw" ["state", "many"] (spDrawS K) := Cal.of gDraw fun F => ok_drawS (k := 0) F z_len z_int
  have cLengths : Cal l.prog w K mg base 1 "_law_lengths" [] spLens := Cal.of gLengths fun F => ok_lengths (k := 0) F
  have cLDate : Cal l.prog w K mg base 2 "_law_date" ["day"] spDateOf := Cal.of gLDate fun F => ok_ldate (k := 1) F cLengths z_range
  have cFr1 : CalD l.prog w K mg base 1 "fraction" ["p", "q"] [.int 1] spFrac := by
    obtain ⟨f, fd, F, g, kp⟩ := fr1 gFraction
    obtain ⟨ds, hv, hB⟩ := F.binds1 (ps := ["p", "q"]) 1 0 (by simp) rfl bdFraction1
    exact ⟨f, fd, ds, ok_fraction (k := 0) F m_gcd, g, kp, hB, hv⟩
  have FI := fun_mk (st := sInit) lI cI kI
  have WC : WordC K mg CW fI _ := ⟨PySem.W.mg_of X G eCW1, ⟨⟨nmW, qW, NW, bsW, _, snW, subW, abW, colW, ddW, mW0, mW1, mW2, mW3, mW5, xL, by rfl⟩, saW, eCW4, eCW5, kCW⟩, noW, inW, tyI, FI, FI.binds (ps := ["self", "word"]) fun _ _ _ _ _ _ us hl => match us, hl with | [_, _], _ => rfl⟩
  have hD : ∀ c ∈ counts, KDct K w zD c (.int (dvs c)) := fun c hc => by
    rcases List.mem_cons.mp hc with q | hc
    · subst q
      exact ⟨_, _, _, l_DIV, kl_DIV, v_fixed, ⟨td0, rfl⟩⟩
    rcases List.mem_cons.mp hc with q | hc
    · subst q
      exact ⟨_, _, _, l_DIV, kl_DIV, v_thirty, ⟨td1, rfl⟩⟩
    rcases List.mem_cons.mp hc with q | hc
    · subst q
      exact ⟨_, _, _, l_DIV, kl_DIV, v_plain, ⟨td2, rfl⟩⟩
    · cases hc
  have mD := PySem.W.mg_of X G k_DIV
  have cPlus : Cal l.prog w K mg base 2 "plus" ["a", "b"] (spOp (fun r s => r + s) fun _ _ => True) := Cal.of gPlus fun F => ok_plus (k := 1) F cFr
  have cMinus : Cal l.prog w K mg base 2 "minus" ["a", "b"] (spOp (fun r s => r - s) fun _ _ => True) := Cal.of gMinus fun F => ok_minus (k := 1) F cFr
  have cOver : Cal l.prog w K mg base 2 "over" ["a", "b"] (spOp (fun r s => r / s) fun _ s => s.num ≠ 0) := Cal.of gOver fun F => ok_over (k := 1) F cFr
  have cNumberOf : Cal l.prog w K mg base 3 "_number_of" ["count", "day"] (spNum numP) := Cal.of gNumberOf fun F => ok_numberof (k := 2) F cDateOf (cMLen.mono (by decide)) (cFr.mono (by decide)) (cFr1.mono (by decide)) cPlus z_min
  have cPart : Cal l.prog w K mg base 4 "part" ["count", "start", "end"] spPart := Cal.of gPart fun F => ok_part (k := 3) F cNumberOf (cMinus.mono (by decide)) (cOver.mono (by decide)) (cFr1.mono (by decide)) mD s_DIV hD
  have cPartXW := CalX.of (P := l.prog) (w := w) (base := base) gPart fun F => ok_partXW (k := 0) F mD s_DIV WC
  have cPartXD := CalX.of (P := l.prog) (w := w) (base := base) gPart fun F => ok_partXD (k := 0) F EC mD s_DIV hD
  have cLowest : Cal l.prog w K mg base 1 "_law_lowest" ["p", "q"] spLow := Cal.of gLowest fun F => ok_lowest (k := 0) F z_range z_int z_abs
  have cLPlus : Cal l.prog w K mg base 2 "_law_plus" ["a", "b"] (spOp (fun r s => r + s) fun _ _ => True) := Cal.of gLPlus fun F => ok_lplus (k := 1) F cLowest
  have cLMinus : Cal l.prog w K mg base 2 "_law_minus" ["a", "b"] (spOp (fun r s => r - s) fun _ _ => True) := Cal.of gLMinus fun F => ok_lminus (k := 1) F cLowest
  have cLNumber : Cal l.prog w K mg base 3 "_law_number" ["count", "day"] (spNum lnumP) := Cal.of gLNumber fun F => ok_lnumber (k := 2) F cLDate (cLengths.mono (by decide)) (cLowest.mono (by decide)) cLPlus z_min
  have cLPart : Cal l.prog w K mg base 4 "_law_part" ["count", "start", "end"] spPart := Cal.of gLPart fun F => ok_lpart (k := 3) F cLNumber (cLMinus.mono (by decide))
  have cTimes : Cal l.prog w K mg base 2 "times" ["a", "b"] (spOp (fun r s => r * s) fun _ _ => True) := Cal.of gTimes fun F => ok_times (k := 1) F cFr
  have cInterest : Cal l.prog w K mg base 5 "interest" ["principal", "rate", "count", "start", "end"] spInt := Cal.of gInterest fun F => ok_interest (k := 4) F (cTimes.mono (by decide)) cPart
  have cInterests : Cal l.prog w K mg base 6 "interests" ["principal", "rate", "count", "days"] spInts := Cal.of gInterests fun F => ok_interests (k := 5) F cInterest z_zip
  have cInterestW := CalX.of (P := l.prog) (w := w) (base := base) gInterest fun F => fnok_or (fnok_up (ok_interest (k := 4) F (cTimes.mono (by decide)) cPart)) (ok_interestX (k := 4) F (cTimes.mono (by decide)) (cPartXW.mono (by decide)))
  have cInterestD := CalX.of (P := l.prog) (w := w) (base := base) gInterest fun F => fnok_or (fnok_up (ok_interest (k := 4) F (cTimes.mono (by decide)) cPart)) (ok_interestX (k := 4) F (cTimes.mono (by decide)) (cPartXD.mono (by decide)))
  have cInterestsW := CalX.of (P := l.prog) (w := w) (base := base) gInterests fun F => ok_interestsX (k := 5) F cInterestW z_zip
  have cInterestsD := CalX.of (P := l.prog) (w := w) (base := base) gInterests fun F => ok_interestsX (k := 5) F cInterestD z_zip
  have cDayOf : Cal l.prog w K mg base 2 "day_of" ["year", "month", "number"] spDayOf := Cal.of gDayOf fun F => ok_dayof (k := 1) F cMLen (PySem.W.mg_of X G k_DAYS_OF_YEAR) (PySem.W.mg_of X G k_LENGTHS) hL z_sum
  have cAddM : Cal l.prog w K mg base 3 "add_months" ["day", "count"] spAddM := Cal.of gAddM fun F => ok_addm (k := 2) F cDateOf cDayOf (cMLen.mono (by decide)) (PySem.W.mg_of X G k_MONTHS_OF_YEAR) z_min
  have cSched : Cal l.prog w K mg base 4 "schedule" ["start", "end", "months"] spSched := Cal.of gSched fun F => ok_sched (k := 3) F cAddM
  have cLTimes : Cal l.prog w K mg base 2 "_law_times" ["a", "b"] (spOp (fun r s => r * s) fun _ _ => True) := Cal.of gLTimes fun F => ok_ltimes (k := 1) F cLowest
  have cLFrac : Cal l.prog w K mg base 2 "_law_fraction" ["state"] (spLFrac K) := Cal.of gLFrac fun F => ok_lfraction (k := 1) F cDraw cLowest
  have cRefuses : Cal l.prog w K mg base 7 "_law_refuses" ["call", "arguments", "wanted"] (spRefusesH l.prog w K mg base 6 CD CW) := Cal.of gRefuses fun F => ok_refuses (k := 6) F T z_len
  obtain ⟨a1, _, _, m1, _⟩ := id gInterests
  exact ok_law (k := 7) (j := 6) (bw := fun c => MissD K w zD c) (fun_mk (st := sLaw) l2 c2 k2) (cState.mono (by decide)) (cDraw.mono (by decide)) (cSched.mono (by decide)) (cLFrac.mono (by decide)) (cLTimes.mono (by decide)) (cLPlus.mono (by decide)) (cInterest.mono (by decide)) (cInterests.mono (by decide)) (cLPart.mono (by decide)) cRefuses z_range z_list z_len z_isinstance m1 ⟨_, _, l_DIV, kl_DIV, v_other⟩
    (fun args H h hn => RaisesAtH.of cInterestsD (by decide) m1 h hn) (fun args H h hn => RaisesAtH.of cInterestsW (by decide) m1 h hn)
end Cs
open PySem PySem.W PyProof.Rows
set_option maxHeartbeats 0 in
theorem PySem.Challenge.cw_consol_k13_whole_interest_adds_up_holds : PySem.Challenge.rw_consol_k13_whole_interest_adds_up.Holds := by
  w_on; o_law; k_head; (case hw => w_witness2)
  k_fill
  refine L2.walk_of (l := PySem.Challenge.rw_consol_k13_whole_interest_adds_up) (n := 63) (k := 8) (x := "script") (CX := fun _ => L2.CX0) (sp := fun w => Cs.spLaw _) rfl (by decide) rfl ⟨rfl, by decide, by decide⟩ (fun w h Y => PySem.W.kIn_of Y) ?F (fun _ _ a ns hl _ hS => ⟨a, ns, rfl, hS, hl, fun _ => rfl⟩) (fun _ _ _ _ _ h => h)
  case F =>
    intro w mg fa h KX G hmg
    refine' Cs.all_mk KX G hmg (Cs.FunG.mk Cs.bdCheck KX G ?a0 ?l0 ?c0 ?k0) (Cs.FunG.mk Cs.bdMLen KX G ?a1 ?l1 ?c1 ?k1) (Cs.FunG.mk Cs.bdDateOf KX G ?a2 ?l2 ?c2 ?k2) (Cs.FunG.mk Cs.bdPlus KX G ?a3 ?l3 ?c3 ?k3) (Cs.FunG.mk Cs.bdMinus KX G ?a4 ?l4 ?c4 ?k4) (Cs.FunG.mk Cs.bdTimes KX G ?a5 ?l5 ?c5 ?k5) (Cs.FunG.mk Cs.bdOver KX G ?a6 ?l6 ?c6 ?k6) (Cs.FunG.mk Cs.bdAddM KX G ?a7 ?l7 ?c7 ?k7) (Cs.FunG.mk Cs.bdSched KX G ?a8 ?l8 ?c8 ?k8) (Cs.FunG.mk Cs.bdDayOf KX G ?a9 ?l9 ?c9 ?k9) (Cs.FunG.mk Cs.bdInterest KX G ?a10 ?l10 ?c10 ?k10) (Cs.FunG.mk Cs.bdInterests KX G ?a11 ?l11 ?c11 ?k11) (Cs.FunG.mk Cs.bdPart KX G ?a12 ?l12 ?c12 ?k12) (Cs.FunG.mk Cs.bdNumberOf KX G ?a13 ?l13 ?c13 ?k13) (Cs.FunG.mk Cs.bdState KX G ?a14 ?l14 ?c14 ?k14) (Cs.FunG.mk Cs.bdDraw KX G ?a15 ?l15 ?c15 ?k15) (Cs.FunG.mk Cs.bdLengths KX G ?a16 ?l16 ?c16 ?k16) (Cs.FunG.mk Cs.bdLDate KX G ?a17 ?l17 ?c17 ?k17) (Cs.FunG.mk Cs.bdRefuses KX G ?a18 ?l18 ?c18 ?k18) (Cs.FunG.mk Cs.bdLowest KX G ?a19 ?l19 ?c19 ?k19) (Cs.FunG.mk Cs.bdLPlus KX G ?a20 ?l20 ?c20 ?k20) (Cs.FunG.mk Cs.bdLMinus KX G ?a21 ?l21 ?c21 ?k21) (Cs.FunG.mk Cs.bdLNumber KX G ?a22 ?l22 ?c22 ?k22) (Cs.FunG.mk Cs.bdLPart KX G ?a23 ?l23 ?c23 ?k23) (Cs.FunG.mk Cs.bdLTimes KX G ?a24 ?l24 ?c24 ?k24) (Cs.FunG.mk Cs.bdLFrac KX G ?a25 ?l25 ?c25 ?k25) (Cs.FunD2.mk Cs.bdFraction KX G ?aF ?lF ?cF ?kF ?tF) ?aL ?lL ?cL ?kL ?y_len ?y_int ?y_list ?y_range ?y_sum ?y_divmod ?y_abs ?y_min ?y_zip ?y_isinstance ?y_gcd ?eCD1 ?eCD2 ?eCD3 ?eCD4 ?eCD5 ?eCW1 ?eCW4 ?eCW5 ?eCW6 ?eCD6 ?sDD ?sWD ?sWW ?eCE1 ?k_DAYS_OF_YEAR ?k_MONTHS_OF_YEAR ?k_LENGTHS ?l_LENGTHS ?xL ?saW ?noW ?inW ?tyI ?lI ?cI ?kI ?kCW ?k_DIV ?l_DIV ?v_fixed ?v_thirty ?v_plain ?v_other ?s_DIV ?kl_DIV
    (case a0 => k_is)
    (case l0 => k_is)
    (case c0 => k_is)
    (case k0 => k_is)
    (case a1 => k_is)
    (case l1 => k_is)
    (case c1 => k_is)
    (case k1 => k_is)
    (case a2 => k_is)
    (case l2 => k_is)
    (case c2 => k_is)
    (case k2 => k_is)
    (case a3 => k_is)
    (case l3 => k_is)
    (case c3 => k_is)
    (case k3 => k_is)
    (case a4 => k_is)
    (case l4 => k_is)
    (case c4 => k_is)
    (case k4 => k_is)
    (case a5 => k_is)
    (case l5 => k_is)
    (case c5 => k_is)
    (case k5 => k_is)
    (case a6 => k_is)
    (case l6 => k_is)
    (case c6 => k_is)
    (case k6 => k_is)
    (case a7 => k_is)
    (case l7 => k_is)
    (case c7 => k_is)
    (case k7 => k_is)
    (case a8 => k_is)
    (case l8 => k_is)
    (case c8 => k_is)
    (case k8 => k_is)
    (case a9 => k_is)
    (case l9 => k_is)
    (case c9 => k_is)
    (case k9 => k_is)
    (case a10 => k_is)
    (case l10 => k_is)
    (case c10 => k_is)
    (case k10 => k_is)
    (case a11 => k_is)
    (case l11 => k_is)
    (case c11 => k_is)
    (case k11 => k_is)
    (case a12 => k_is)
    (case l12 => k_is)
    (case c12 => k_is)
    (case k12 => k_is)
    (case a13 => k_is)
    (case l13 => k_is)
    (case c13 => k_is)
    (case k13 => k_is)
    (case a14 => k_is)
    (case l14 => k_is)
    (case c14 => k_is)
    (case k14 => k_is)
    (case a15 => k_is)
    (case l15 => k_is)
    (case c15 => k_is)
    (case k15 => k_is)
    (case a16 => k_is)
    (case l16 => k_is)
    (case c16 => k_is)
    (case k16 => k_is)
    (case a17 => k_is)
    (case l17 => k_is)
    (case c17 => k_is)
    (case k17 => k_is)
    (case a18 => k_is)
    (case l18 => k_is)
    (case c18 => k_is)
    (case k18 => k_is)
    (case a19 => k_is)
    (case l19 => k_is)
    (case c19 => k_is)
    (case k19 => k_is)
    (case a20 => k_is)
    (case l20 => k_is)
    (case c20 => k_is)
    (case k20 => k_is)
    (case a21 => k_is)
    (case l21 => k_is)
    (case c21 => k_is)
    (case k21 => k_is)
    (case a22 => k_is)
    (case l22 => k_is)
    (case c22 => k_is)
    (case k22 => k_is)
    (case a23 => k_is)
    (case l23 => k_is)
    (case c23 => k_is)
    (case k23 => k_is)
    (case a24 => k_is)
    (case l24 => k_is)
    (case c24 => k_is)
    (case k24 => k_is)
    (case a25 => k_is)
    (case l25 => k_is)
    (case c25 => k_is)
    (case k25 => k_is)
    (case aF => k_is)
    (case lF => k_is)
    (case cF => k_is)
    (case kF => k_is)
    (case tF => k_is)
    (case aL => k_is)
    (case lL => k_is)
    (case cL => k_is)
    (case kL => k_is)
    (case y_len => k_is)
    (case y_int => k_is)
    (case y_list => k_is)
    (case y_range => k_is)
    (case y_sum => k_is)
    (case y_divmod => k_is)
    (case y_abs => k_is)
    (case y_min => k_is)
    (case y_zip => k_is)
    (case y_isinstance => k_is)
    (case y_gcd => k_is)
    (case eCD1 => k_is)
    (case eCD2 => k_exc)
    (case eCD3 => k_is)
    (case eCD4 => k_is)
    (case eCD5 => k_is)
    (case eCW1 => k_is)
    (case eCW4 => k_is)
    (case eCW5 => k_is)
    (case eCW6 => k_is)
    (case eCD6 => k_is)
    (case sDD => first | rfl | k_is)
    (case sWD => k_is)
    (case sWW => first | rfl | k_is)
    (case eCE1 => k_is)
    (case k_DAYS_OF_YEAR => k_is)
    (case k_MONTHS_OF_YEAR => k_is)
    (case k_LENGTHS => k_is)
    (case l_LENGTHS => k_is)
    (case xL => k_is)
    (case saW => k_is)
    (case noW => k_is)
    (case inW => k_is)
    (case tyI => k_is)
    (case lI => k_is)
    (case cI => k_is)
    (case kI => k_is)
    (case kCW => k_is)
    (case k_DIV => k_is)
    (case l_DIV => k_is)
    (case v_fixed => k_is)
    (case v_thirty => k_is)
    (case v_plain => k_is)
    (case v_other => k_is)
    (case s_DIV => first | rfl | decide)
    (case kl_DIV => exact ⟨⟨_, _, rfl, rfl⟩, ⟨_, _, rfl, rfl⟩, ⟨_, _, rfl, rfl⟩, trivial⟩)
