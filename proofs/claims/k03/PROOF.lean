import PyProof.Rows.All
import Wide.All
import OpenK.AllK
import Wide.FinOn
import PySem.Challenge.RW_consol_k03_lists_of_fractions
import HandS.ForMost
import HandS.Wide
import HandS.Gcd
import HandS.IsInst
import HandS.Defaults
import HandS.EndBits
import HandS.ForExc
import HandS.ExcIs
import HandS.Zip
set_option Elab.async false
set_option linter.all false
set_option maxRecDepth 100000
set_option exponentiation.threshold 20000
namespace Cs
/-- the pair a fraction is -/
theorem divInt_pos (p q : Int) (hq : 0 < q) : (Rat.divInt p q).num = p / (Nat.gcd p.natAbs q.natAbs : Nat) ∧ ((Rat.divInt p q).den : Int) = q / (Nat.gcd p.natAbs q.natAbs : Nat) := by
  obtain ⟨n, rfl⟩ : ∃ n : Nat, q = (n : Int) := ⟨q.toNat, by omega⟩
  have hn : n ≠ 0 := by omega
  have e : Rat.divInt p (n : Int) = Rat.normalize p n hn := by
    rw [Rat.divInt_ofNat, ← Rat.normalize_eq_mkRat]
  rw [e, Rat.normalize_eq]
  refine ⟨rfl, ?_⟩
  show ((n / Nat.gcd p.natAbs n : Nat) : Int) = (n : Int) / (Nat.gcd p.natAbs (n : Int).natAbs : Nat)
  rw [Int.natAbs_natCast, Int.natCast_ediv]
theorem neg_ediv_dvd {a g : Int} (h : g ∣ a) : (-a) / g = -(a / g) := by
  obtain ⟨k, rfl⟩ := h
  by_cases hg : g = 0
  · subst hg; simp
  · rw [← Int.mul_neg, Int.mul_ediv_cancel_left _ hg, Int.mul_ediv_cancel_left _ hg]
theorem fdiv_neg_dvd {a g : Int} (hg : 0 < g) (h : g ∣ a) : a.fdiv (-g) = -(a / g) := by
  rw [Int.fdiv_neg (by omega), if_pos h, Int.fdiv_eq_ediv_of_nonneg _ (by omega)]
theorem gcd_dvd_p (p q : Int) : ((Nat.gcd p.natAbs q.natAbs : Nat) : Int) ∣ p := Int.ofNat_dvd_left.mpr (Nat.gcd_dvd_left _ _)
theorem gcd_dvd_q (p q : Int) : ((Nat.gcd p.natAbs q.natAbs : Nat) : Int) ∣ q := Int.ofNat_dvd_left.mpr (Nat.gcd_dvd_right _ _)
theorem gcd_pos (p q : Int) (hq : q ≠ 0) : 0 < ((Nat.gcd p.natAbs q.natAbs : Nat) : Int) := by
  have : 0 < Nat.gcd p.natAbs q.natAbs := Nat.gcd_pos_of_pos_right _ (by omega)
  omega
/-- what fraction computes -/
theorem frac_num (p q : Int) (hq : q ≠ 0) : (p.fdiv (if q < 0 then -((Nat.gcd p.natAbs q.natAbs : Nat) : Int) else ((Nat.gcd p.natAbs q.natAbs : Nat) : Int))) = (Rat.divInt p q).num := by
  have hg := gcd_pos p q hq
  split
  · rename_i h
    rw [fdiv_neg_dvd hg (gcd_dvd_p p q)]
    have e : Rat.divInt p q = Rat.divInt (-p) (-q) := by rw [Rat.neg_divInt_neg]
    rw [e, (divInt_pos (-p) (-q) (by omega)).1, Int.natAbs_neg, Int.natAbs_neg, neg_ediv_dvd (gcd_dvd_p p q)]
  · rename_i h
    rw [(divInt_pos p q (by omega)).1, Int.fdiv_eq_ediv_of_nonneg _ (by omega)]
theorem frac_den (p q : Int) (hq : q ≠ 0) : (q.fdiv (if q < 0 then -((Nat.gcd p.natAbs q.natAbs : Nat) : Int) else ((Nat.gcd p.natAbs q.natAbs : Nat) : Int))) = ((Rat.divInt p q).den : Int) := by
  have hg := gcd_pos p q hq
  split
  · rename_i h
    rw [fdiv_neg_dvd hg (gcd_dvd_q p q)]
    have e : Rat.divInt p q = Rat.divInt (-p) (-q) := by rw [Rat.neg_divInt_neg]
    rw [e, (divInt_pos (-p) (-q) (by omega)).2, Int.natAbs_neg, Int.natAbs_neg, neg_ediv_dvd (gcd_dvd_q p q)]
  · rename_i h
    rw [(divInt_pos p q (by omega)).2, Int.fdiv_eq_ediv_of_nonneg _ (by omega)]
/-! sizes -/
def Sz (n : Nat) (r : Rat) : Prop := r.num.natAbs < 2 ^ n ∧ r.den < 2 ^ n
theorem Sz.mono {n m : Nat} {r : Rat} (h : Sz n r) (k : n ≤ m) : Sz m r :=
  ⟨Nat.lt_of_lt_of_le h.1 (Nat.pow_le_pow_right (by decide) k), Nat.lt_of_lt_of_le h.2 (Nat.pow_le_pow_right (by decide) k)⟩
theorem sz_div {n : Nat} {p q : Int} (hq : q ≠ 0) (hp : p.natAbs < 2 ^ n) (h : q.natAbs < 2 ^ n) : Sz n (Rat.divInt p q) := by
  have hg := gcd_pos p q hq
  have key : ∀ p q : Int, 0 < q → p.natAbs < 2 ^ n → q.natAbs < 2 ^ n → Sz n (Rat.divInt p q) := by
    intro p q hq hp h
    have e1 := (divInt_pos p q hq).1
    have e2 := (divInt_pos p q hq).2
    refine ⟨?_, ?_⟩
    · rw [e1]
      refine Nat.lt_of_le_of_lt ?_ hp
      rw [Int.natAbs_ediv_of_dvd (gcd_dvd_p p q)]
      exact Nat.div_le_self _ _
    · have : (Rat.divInt p q).den = q.natAbs / (Nat.gcd p.natAbs q.natAbs) := by
        have : (((Rat.divInt p q).den : Int)).natAbs = (q / (Nat.gcd p.natAbs q.natAbs : Nat)).natAbs := by rw [e2]
        rw [Int.natAbs_natCast, Int.natAbs_ediv_of_dvd (gcd_dvd_q p q), Int.natAbs_natCast] at this
        exact this
      rw [this]
      exact Nat.lt_of_le_of_lt (Nat.div_le_self _ _) h
  by_cases hn : q < 0
  · have e : Rat.divInt p q = Rat.divInt (-p) (-q) := by rw [Rat.neg_divInt_neg]
    rw [e]
    exact key _ _ (by omega) (by rw [Int.natAbs_neg]; exact hp) (by rw [Int.natAbs_neg]; exact h)
  · exact key p q (by omega) hp h
theorem pow_lt {i j : Int} {a b : Nat} (ha : i.natAbs < 2 ^ a) (hb : j.natAbs < 2 ^ b) : (i * j).natAbs < 2 ^ (a + b) := by
  rw [Int.natAbs_mul, Nat.pow_add]
  exact Nat.mul_lt_mul'' ha hb
theorem add_lt {i j : Int} {a : Nat} (ha : i.natAbs < 2 ^ a) (hb : j.natAbs < 2 ^ a) : (i + j).natAbs < 2 ^ (a + 1) := by
  have : (2 : Nat) ^ (a + 1) = 2 ^ a * 2 := Nat.pow_succ ..
  omega
theorem sub_lt {i j : Int} {a : Nat} (ha : i.natAbs < 2 ^ a) (hb : j.natAbs < 2 ^ a) : (i - j).natAbs < 2 ^ (a + 1) := by
  have : (2 : Nat) ^ (a + 1) = 2 ^ a * 2 := Nat.pow_succ ..
  omega
theorem den_ne (r : Rat) : (r.den : Int) ≠ 0 := by have := r.den_nz; omega
theorem den_pos (r : Rat) : 0 < (r.den : Int) := by have := r.den_nz; omega
theorem add_div (r s : Rat) : Rat.divInt (r.num * s.den + s.num * r.den) (r.den * s.den) = r + s := by
  rw [← Rat.divInt_add_divInt _ _ (den_ne r) (den_ne s), Rat.num_divInt_den, Rat.num_divInt_den]
theorem sub_div (r s : Rat) : Rat.divInt (r.num * s.den - s.num * r.den) (r.den * s.den) = r - s := by
  rw [← Rat.divInt_sub_divInt _ _ (den_ne r) (den_ne s), Rat.num_divInt_den, Rat.num_divInt_den]
theorem mul_div (r s : Rat) : Rat.divInt (r.num * s.num) (r.den * s.den) = r * s := by
  rw [← Rat.divInt_mul_divInt, Rat.num_divInt_den, Rat.num_divInt_den]
theorem div_div (r s : Rat) : Rat.divInt (r.num * s.den) (r.den * s.num) = r / s := by
  rw [Rat.div_def, ← Rat.divInt_mul_divInt, Rat.num_divInt_den]
  rw [Rat.inv_def]
theorem num_ne {s : Rat} (h : s.num ≠ 0) : s ≠ 0 := fun e => h (by rw [e]; rfl)
/-! Euclid's steps -/
def EG (g : Nat) (N i : Nat) (a b : Nat) : Prop := Nat.gcd a b = g ∧ (i = 0 → a * b < 2 ^ N) ∧ (0 < i → b < a ∧ a * b < 2 ^ (N + 1 - i))
theorem EG.start {N a b : Nat} (h : a * b < 2 ^ N) : EG (Nat.gcd a b) N 0 a b := ⟨rfl, fun _ => h, fun z => absurd z (by decide)⟩
theorem EG.step {g N i a b : Nat} (h : EG g N i a b) (hb : 0 < b) (hi : i ≤ N) : EG g N (i + 1) b (a % b) := by
  obtain ⟨h1, h2, h3⟩ := h
  have hlt : a % b < b := Nat.mod_lt _ hb
  refine ⟨?_, fun z => absurd z (by omega), fun _ => ⟨hlt, ?_⟩⟩
  · rw [← h1, Nat.gcd_comm a b, Nat.gcd_rec b a, Nat.gcd_comm]
  · by_cases h0 : i = 0
    · subst h0
      have e := h2 rfl
      rw [show N + 1 - (0 + 1) = N by omega]
      refine Nat.lt_of_le_of_lt ?_ e
      rw [Nat.mul_comm a b]
      exact Nat.mul_le_mul_left _ (Nat.mod_le _ _)
    · obtain ⟨hba, hp⟩ := h3 (by omega)
      have e1 : N + 1 - i = (N + 1 - (i + 1)) + 1 := by omega
      rw [e1, Nat.pow_succ] at hp
      have hd := Nat.div_add_mod a b
      have hq : 1 ≤ a / b := Nat.div_pos (Nat.le_of_lt hba) hb
      have ha : b + a % b ≤ a := by
        have : b * 1 ≤ b * (a / b) := Nat.mul_le_mul_left _ hq
        omega
      have : b * (a % b) * 2 ≤ a * b := by
        have h5 : b * (a % b) + b * (a % b) ≤ b * (b + a % b) := by
          rw [Nat.mul_add]
          exact Nat.add_le_add_right (Nat.mul_le_mul_left _ (Nat.le_of_lt hlt)) _
        have h6 : b * (b + a % b) ≤ b * a := Nat.mul_le_mul_left _ ha
        rw [Nat.mul_comm a b]
        omega
      omega
theorem EG.zero {g N i a : Nat} (h : EG g N i a 0) : a = g := by
  have := h.1
  rwa [Nat.gcd_zero_right] at this
theorem EG.last {g N a b : Nat} (h : EG g N (N + 1) a b) : b = 0 := by
  obtain ⟨h1, h2⟩ := h.2.2 (by omega)
  rw [show N + 1 - (N + 1) = 0 by omega, Nat.pow_zero] at h2
  cases b with
  | zero => rfl
  | succ b =>
    have : 1 * 1 ≤ a * (b + 1) := Nat.mul_le_mul (by omega) (by omega)
    omega
end Cs
set_option maxHeartbeats 4000000
namespace Cs
open PySem PySem.Spec PyProof.Rows L2
/-! ### operators at any size -/
def CDivA (_ j : Int) : Prop := j ≠ 0 ∧ j.natAbs < 2 ^ 9000
section
variable {X : Cx}
theorem op_fdivA : OpR X (binaryOp .FloorDiv) (rI CDivA fun i j => .int (i.fdiv j)) := opI fun _ _ _ _ _ _ _ hc q =>
  floordiv_int hc.1 q (.inl (PyProof.noPylong_of_log2 (PySem.Flt.log2_lt_of (by decide) hc.2)))
theorem op_mulA : OpR X (binaryOp .Mult) (rI IntMulOk fun i j => .int (i * j)) := opI fun _ _ _ _ _ _ _ hc q => mul_int q hc
end
theorem mulL {i j : Int} (h : i.natAbs < 2 ^ 64) : IntMulOk i j := CMul.ok (.inl (by omega))
theorem mulR {i j : Int} (h : j.natAbs < 2 ^ 64) : IntMulOk i j := CMul.ok (.inr (by omega))
theorem mulB {i j : Int} {a : Nat} (hi : i.natAbs < 2 ^ a) (hj : j.natAbs < 2 ^ a) (h0 : 0 < a) (h : a ≤ 500000) : IntMulOk i j := (wide_mul hi hj h0 h0 (by omega)).ok
/-! ### a def that may be called -/
def Cal (P : Program) (w : World) (K : PySem.W.Frag) (mg : Str → Option Value) (base : Heap) (k : Nat) (x : Str) (ps : List Str) (sp : Sp) : Prop :=
  ∃ (f : Addr) (fd : FuncData), FnOk P w K mg base CX0 k f fd ps sp ∧ mg x = some (.ref f) ∧ PySem.W.keepIn K (.ref f) = true ∧ Binds K fd ps []
/-- a def of the text, with its place and how it binds -/
def FunG (K : PySem.W.Frag) (mg : Str → Option Value) (x : Str) (st : Stmt) (ps : List Str) : Prop :=
  ∃ (f : Addr) (fd : FuncData), Fun K x x st f fd ∧ mg x = some (.ref f) ∧ Binds K fd ps []
section
variable {P : Program} {w : World} {K : PySem.W.Frag} {mg : Str → Option Value} {base : Heap} {k j : Nat} {x : Str} {ps : List Str} {sp sp' : Sp} {st : Stmt}
theorem Cal.of (F : FunG K mg x st ps) (h : ∀ {f : Addr} {fd : FuncData}, Fun K x x st f fd → FnOk P w K mg base CX0 k f fd ps sp) : Cal P w K mg base k x ps sp := by
  obtain ⟨f, fd, F, g, b⟩ := F
  exact ⟨f, fd, h F, g, F.kp, b⟩
theorem Cal.mono (c : Cal P w K mg base j x ps sp) (h : j ≤ k) : Cal P w K mg base k x ps sp := by
  obtain ⟨f, fd, F, g⟩ := c
  exact ⟨f, fd, F.mono h, g⟩
theorem Cal.imp (c : Cal P w K mg base k x ps sp) (h : ∀ vs H Q E, sp' vs H Q E → sp vs H Q E) : Cal P w K mg base k x ps sp' := by
  obtain ⟨f, fd, F, g⟩ := c
  exact ⟨f, fd, F.imp h, g⟩
theorem FunG.of {f : Addr} {fd : FuncData} (F : Fun K x x st f fd) (g : mg x = some (.ref f)) (b : Binds K fd ps []) : FunG K mg x st ps := ⟨f, fd, F, g, b⟩
end
section
variable {X : Cx} {k : Nat} {x : Str} {ps : List Str} {sp : Sp} {p pos : Pos} {e : Expr} {es : List Expr} {t : TA}
theorem pe_cal (c : Cal X.prog X.w X.K X.mg X.base k x ps sp) (hr : Room k X.A) (hg : Gl X x) (ha : PA X (e :: es) t) (hdb : (x == ("__debug__" : Str)) = false := by decide)
    (he : starEach (e :: es) X.env = (false, eval e X.env) :: starEach es X.env := by rfl) (hpl : (backTo pos (starEach es X.env)).any (·.1) = false := by rfl) :
    PE X (.Call (.Name x p) (e :: es) [] pos) (tCall sp [] E0 t) := by
  obtain ⟨f, fd, F, g, kp, b⟩ := c
  exact pe_call F hr hg g kp b .nil pass0 ha hdb he hpl
end
/-! ### heaps -/
/-- all but d is as it was -/
def But (d : Addr) (H H' : Hp) : Prop := ∀ b o, b ≠ d → H b = some o → H' b = some o
theorem But.refl {d : Addr} {H : Hp} : But d H H := fun _ _ _ h => h
theorem But.trans {d : Addr} {H H1 H2 : Hp} (a : But d H H1) (b : But d H1 H2) : But d H H2 := fun c o n h => b c o n (a c o n h)
theorem But.upd {d : Addr} {H : Hp} {o : HO} : But d H (upd H d o) := fun b o' n h => by rw [upd_ne n]; exact h
theorem Same.but {d : Addr} {H H' : Hp} (s : Same H H') : But d H H' := fun b o _ h => s b o h
theorem Same.new {H : Hp} {p : Addr} {o : HO} (h : H p = none) : Same H (upd H p o) := fun b x e => by
  rw [upd_ne (ne_of_none e h)]
  exact e
theorem But.seq {K : PySem.W.Frag} {d a : Addr} {xs : List V} {H H' : Hp} (b : But d H H') (n : a ≠ d) (h : SqL K H a xs) : SqL K H' a xs := by
  rcases h with (h | ⟨o, h⟩) | h
  · exact .inl (.inl (b _ _ n h))
  · exact .inl (.inr ⟨o, b _ _ n h⟩)
  · exact .inr h
theorem But.tup {d a : Addr} {xs : List V} {H H' : Hp} {ys : List V} (b : But d H H') (hd : H d = some (.lst ys)) (h : H a = some (.tup xs)) : H' a = some (.tup xs) :=
  b a _ (ne_of h hd (fun z => nomatch z)) h
/-! ### the deck: the script's list, the next cell, what is left of a cell, the state -/
def DeckO (l : Addr) (b c e : Int) : HO := .lst [.ref l, .int b, .int c, .int e]
def Deck (K : PySem.W.Frag) (H : Hp) (d : Addr) : Prop := ∃ (l : Addr) (ns : List Int) (b c e : Int), H d = some (DeckO l b c e) ∧ SqL K H l (ns.map V.int) ∧ l ≠ d ∧ 0 ≤ b
theorem Deck.same {K : PySem.W.Frag} {H H' : Hp} {d : Addr} (s : Same H H') (h : Deck K H d) : Deck K H' d := by
  obtain ⟨l, ns, b, c, e, h1, h2, h3, h4⟩ := h
  exact ⟨l, ns, b, c, e, s _ _ h1, s.seq h2, h3, h4⟩
theorem Deck.lst {K : PySem.W.Frag} {H : Hp} {d : Addr} (h : Deck K H d) : ∃ ys, H d = some (.lst ys) := by
  obtain ⟨l, ns, b, c, e, h1, h2, h3, h4⟩ := h
  exact ⟨_, h1⟩
theorem But.tupD {K : PySem.W.Frag} {d a : Addr} {xs : List V} {H H' : Hp} (b : But d H H') (hd : Deck K H d) (h : H a = some (.tup xs)) : H' a = some (.tup xs) := by
  obtain ⟨ys, e⟩ := hd.lst
  exact b.tup e h
theorem deck_of {K : PySem.W.Frag} {H H1 : Hp} {d l : Addr} {ns : List Int} {b c e : Int} (hl : SqL K H l (ns.map V.int)) (ne : l ≠ d) (hb : But d H H1) (h : H1 d = some (DeckO l b c e)) (b0 : 0 ≤ b) : Deck K H1 d :=
  ⟨l, ns, b, c, e, h, hb.seq ne hl, ne, b0⟩
theorem cell_at {ns : List Int} {b : Int} (b0 : 0 ≤ b) (h : b < (ns.length : Int)) : ∃ z, atI (ns.map V.int) b = some (.int z) := by
  obtain ⟨j, rfl⟩ : ∃ j : Nat, b = (j : Int) := ⟨b.toNat, by omega⟩
  have hj : j < ns.length := by omega
  exact ⟨ns[j], atI_nat (by rw [List.getElem?_map, List.getElem?_eq_getElem hj]; rfl)⟩
def spDeck (K : PySem.W.Frag) : Sp := fun vs H Q _ => ∃ (a : Addr) (ns : List Int), vs = [.ref a] ∧ SqL K H a (ns.map V.int) ∧ ∀ d H', Same H H' → H d = none → Deck K H' d → Q (.ref d) H'
def spDraw (K : PySem.W.Frag) : Sp := fun vs H Q _ => ∃ (d : Addr) (m : Int), vs = [.ref d, .int m] ∧ 0 < m ∧ m.natAbs < 2 ^ 8000 ∧ Deck K H d ∧ ∀ v H', 0 ≤ v → v < m → But d H H' → Deck K H' d → Q (.int v) H'
/-! ### fractions -/
def nd (r : Rat) : HO := .tup [.int r.num, .int (r.den : Int)]
def spFrac : Sp := fun vs H Q _ => ∃ p q : Int, vs = [.int p, .int q] ∧ q ≠ 0 ∧ q.natAbs < 2 ^ 9000 ∧ ∀ t H', Same H H' → H t = none → H' t = some (nd (Rat.divInt p q)) → Q (.ref t) H'
def spGcd : Sp := fun vs H Q _ => ∃ a b : Nat, vs = [.int a, .int b] ∧ a < 2 ^ 2400 ∧ b < 2 ^ 2400 ∧ Q (.int (Nat.gcd a b : Nat)) H
def spRatio : Sp := fun vs H Q _ => ∃ p q : Int, vs = [.int p, .int q] ∧ q ≠ 0 ∧ p.natAbs < 2 ^ 2400 ∧ q.natAbs < 2 ^ 2400 ∧ ∀ t H', Same H H' → H t = none → H' t = some (nd (Rat.divInt p q)) → Q (.ref t) H'
def spOp (f : Rat → Rat → Rat) (ok : Rat → Rat → Prop) : Sp := fun vs H Q _ => ∃ (a b : Addr) (r s : Rat), vs = [.ref a, .ref b] ∧ H a = some (nd r) ∧ H b = some (nd s) ∧ Sz 1000 r ∧ Sz 1000 s ∧ ok r s ∧ ∀ t H', Same H H' → H t = none → H' t = some (nd (f r s)) → Q (.ref t) H'
def spCmp (f : Rat → Rat → V) : Sp := fun vs H Q _ => ∃ (a b : Addr) (r s : Rat), vs = [.ref a, .ref b] ∧ H a = some (nd r) ∧ H b = some (nd s) ∧ Sz 1000 r ∧ Sz 1000 s ∧ ∀ H', Same H H' → Q (f r s) H'
/-- -1, 0 or 1 -/
def cmpR (r s : Rat) : Int := (r.num * s.den - s.num * r.den).sign
theorem cmpR_eq {r s : Rat} (h : cmpR r s = 0) : r = s := by
  have e : r.num * s.den = s.num * r.den := by
    have := Int.sign_eq_zero_iff_zero.mp h
    omega
  have h1 : ¬ r < s := fun z => by have := (Rat.lt_iff r s).mp z; omega
  have h2 : ¬ s < r := fun z => by have := (Rat.lt_iff s r).mp z; omega
  grind
theorem cmpR_neg (r s : Rat) : cmpR s r = -cmpR r s := by
  unfold cmpR
  rw [← Int.sign_neg]
  congr 1
  omega
theorem cmpR_lt {r s : Rat} : cmpR r s = -1 ↔ r < s := by
  unfold cmpR
  rw [Rat.lt_iff, Int.sign_eq_neg_one_iff_neg]
  omega
theorem cmpR_gt {r s : Rat} : cmpR r s = 1 ↔ s < r := by
  unfold cmpR
  rw [Rat.lt_iff, Int.sign_eq_one_iff_pos]
  omega
theorem cmpR_three (r s : Rat) : cmpR r s = -1 ∨ cmpR r s = 0 ∨ cmpR r s = 1 := by
  unfold cmpR
  rcases Int.lt_trichotomy (r.num * s.den - s.num * r.den) 0 with h | h | h
  · exact .inl (Int.sign_eq_neg_one_iff_neg.mpr h)
  · rw [h]; exact .inr (.inl rfl)
  · exact .inr (.inr (Int.sign_eq_one_iff_pos.mpr h))
theorem cmpR_add (r s t : Rat) : cmpR (r + t) (s + t) = cmpR r s := by
  rcases cmpR_three r s with h | h | h
  · rw [h, cmpR_lt]
    have := cmpR_lt.mp h
    grind
  · rw [cmpR_eq h]
    unfold cmpR
    rw [Int.sub_self, Int.sub_self]
  · rw [h, cmpR_gt]
    have := cmpR_gt.mp h
    grind
theorem sign_le (d : Int) : d.sign ≤ 0 ↔ ¬ 0 < d := by
  rcases Int.lt_trichotomy d 0 with h | h | h
  · rw [Int.sign_eq_neg_one_iff_neg.mpr h]; omega
  · subst h; decide
  · rw [Int.sign_eq_one_iff_pos.mpr h]; omega
theorem sign_if (d : Int) : (if decide (0 < d) = true then (1 : Int) else 0) - (if decide (d < 0) = true then 1 else 0) = d.sign := by
  rcases Int.lt_trichotomy d 0 with h | h | h
  · rw [Int.sign_eq_neg_one_iff_neg.mpr h, decide_eq_true h, decide_eq_false (by omega)]; rfl
  · subst h; rfl
  · rw [Int.sign_eq_one_iff_pos.mpr h, decide_eq_true h, decide_eq_false (by omega)]; rfl
theorem sign_if2 (d : Int) : (if decide (d < 0) = true then (-1 : Int) else if decide (0 < d) = true then 1 else 0) = d.sign := by
  rcases Int.lt_trichotomy d 0 with h | h | h
  · rw [Int.sign_eq_neg_one_iff_neg.mpr h, decide_eq_true h]; rfl
  · subst h; rfl
  · rw [Int.sign_eq_one_iff_pos.mpr h, decide_eq_true h, decide_eq_false (by omega)]; rfl
/-! ### isinstance -/
theorem kit_ii : kitB "int" "int" = some true := by decide +kernel
theorem kit_ib : kitB "int" "bool" = some false := by decide +kernel
theorem kit_it : kitB "int" "tuple" = some false := by decide +kernel
theorem kit_bi : kitB "bool" "int" = some true := by decide +kernel
theorem kit_bb : kitB "bool" "bool" = some true := by decide +kernel
theorem kit_bt : kitB "bool" "tuple" = some false := by decide +kernel
theorem kit_tt : kitB "tuple" "tuple" = some true := by decide +kernel
/-- same as the law's own: ints, truths, fractions -/
def spSame0 : Sp := fun vs H Q _ => (∃ i j : Int, vs = [.int i, .int j] ∧ Q (.bl (decide (i = j))) H) ∨ (∃ a b : Bool, vs = [.bl a, .bl b] ∧ Q (.bl (decide (a = b))) H)
def spSame : Sp := fun vs H Q E => spSame0 vs H Q E ∨ ∃ (a b : Addr) (r s : Rat), vs = [.ref a, .ref b] ∧ H a = some (nd r) ∧ H b = some (nd s) ∧ Q (.bl (decide (r = s))) H
def spNumber (K : PySem.W.Frag) : Sp := fun vs H Q _ => ∃ d : Addr, vs = [.ref d] ∧ Deck K H d ∧ ∀ (t : Addr) (r : Rat) (H' : Hp), But d H H' → Deck K H' d → Sz 42 r → H' t = some (nd r) → Q (.ref t) H'
def spSmaller : Sp := fun vs H Q _ => ∃ (a b : Addr) (r s : Rat), vs = [.ref a, .ref b] ∧ H a = some (nd r) ∧ H b = some (nd s) ∧ Sz 1000 r ∧ Sz 1000 s ∧ ∀ H', Same H H' → Q (if cmpR r s ≤ 0 then .ref a else .ref b) H'
def spGreater : Sp := fun vs H Q _ => ∃ (a b : Addr) (r s : Rat), vs = [.ref a, .ref b] ∧ H a = some (nd r) ∧ H b = some (nd s) ∧ Sz 1000 r ∧ Sz 1000 s ∧ ∀ H', Same H H' → Q (if 0 ≤ cmpR r s then .ref a else .ref b) H'
def spWhole : Sp := fun vs H Q _ => ∃ (a : Addr) (r : Rat), vs = [.ref a] ∧ H a = some (nd r) ∧ Sz 1000 r ∧ Q (.int (r.num / (r.den : Int))) H
def spIsInt : Sp := fun vs H Q _ => ∃ i : Int, vs = [.int i] ∧ Q (.bl true) H
theorem nd_int (n : Int) : nd (n : Rat) = .tup [.int n, .int 1] := rfl
theorem nd_inj {r s : Rat} (h1 : r.num = s.num) (h2 : (r.den : Int) = s.den) : r = s := Rat.ext h1 (by omega)
theorem Sz.int {k : Nat} {n : Int} (h : n.natAbs < 2 ^ k) (hk : 0 < k) : Sz k (n : Rat) := ⟨h, Nat.one_lt_two_pow (by omega)⟩
theorem Sz.nn {n : Nat} {r : Rat} (h : Sz n r) : r.num.natAbs < 2 ^ n := h.1
theorem Sz.dd {n : Nat} {r : Rat} (h : Sz n r) : ((r.den : Int)).natAbs < 2 ^ n := by rw [Int.natAbs_natCast]; exact h.2
theorem mulZ {i j : Int} (hi : i.natAbs < 2 ^ 1000) (hj : j.natAbs < 2 ^ 1000) : IntMulOk i j := mulB hi hj (by decide) (by decide)
theorem lt9 {i : Int} {a : Nat} (h : i.natAbs < 2 ^ a) (k : a ≤ 9000) : i.natAbs < 2 ^ 9000 := Nat.lt_of_lt_of_le h (Nat.pow_le_pow_right (by decide) k)
theorem fdivI {i j : Int} {V' : Int → V} : (fun i j => V' (i.fdiv j)) i j = V' (i.fdiv j) := rfl
theorem sz_add {n : Nat} {r s : Rat} (h : Sz n r) (g : Sz n s) : Sz (n + n + 1) (r + s) := by
  rw [← add_div]
  exact sz_div (Int.mul_ne_zero (den_ne r) (den_ne s)) (add_lt (pow_lt h.nn g.dd) (pow_lt g.nn h.dd)) (Nat.lt_trans (pow_lt h.dd g.dd) (Nat.pow_lt_pow_right (by decide) (by omega)))
theorem sz_mul {n : Nat} {r s : Rat} (h : Sz n r) (g : Sz n s) : Sz (n + n) (r * s) := by
  rw [← mul_div]
  exact sz_div (Int.mul_ne_zero (den_ne r) (den_ne s)) (pow_lt h.nn g.nn) (pow_lt h.dd g.dd)
theorem sz_sub {n : Nat} {r s : Rat} (h : Sz n r) (g : Sz n s) : Sz (n + n + 1) (r - s) := by
  rw [← sub_div]
  exact sz_div (Int.mul_ne_zero (den_ne r) (den_ne s)) (sub_lt (pow_lt h.nn g.dd) (pow_lt g.nn h.dd)) (Nat.lt_trans (pow_lt h.dd g.dd) (Nat.pow_lt_pow_right (by decide) (by omega)))
theorem sz_quo {n : Nat} {r s : Rat} (h : Sz n r) (g : Sz n s) (hs : s.num ≠ 0) : Sz (n + n) (r / s) := by
  rw [← div_div]
  exact sz_div (Int.mul_ne_zero (den_ne r) hs) (pow_lt h.nn g.dd) (pow_lt h.dd g.nn)
theorem sz_zero {n : Nat} (h : 0 < n) : Sz n 0 := ⟨Nat.two_pow_pos n, Nat.one_lt_two_pow (by omega)⟩
def spLaw (K : PySem.W.Frag) : Sp := fun vs H Q _ => ∃ (a : Addr) (ns : List Int), vs = [.ref a] ∧ SqL K H a (ns.map V.int) ∧ ns.length ≤ 63 ∧ ∀ H', Q (.bl true) H'
/-! ### what the top has written -/
section
variable {K : PySem.W.Frag} {h : Heap} {mg : Str → Option Value}
theorem FunG.mk {x : Str} {st : Stmt} {ps : List Str} {f : Addr} {od an : Option Addr} {sl : Array (Option Value)} {oc kV dc pm cd ct : Value}
    (hb : ∀ (kV doc pm : Value) (an : Option Addr) (cdv ct : Value) (us : List Value), us.length = ps.length → bindArgs (PySem.W.fnOf x x (defArgs st) (defBody st) (defScope st) .none kV doc pm an cdv ct) ⟨us, []⟩ = pure (ps.zip us))
    (X : K.In h) (G : h.Ns mainGlobals mg)
    (a : PySem.W.nsIn K mainGlobals x = some (some (.ref f))) (l : K.lookup f = some ⟨oc, od, .func (PySem.W.fnOf x x (defArgs st) (defBody st) (defScope st) .none kV dc pm an cd ct), sl⟩) (c : PySem.W.codeIn K cd x = true) (k : PySem.W.keepIn K (.ref f) = true) : FunG K mg x st ps := by
  have F := fun_mk (st := st) l c k
  exact ⟨f, _, F, PySem.W.mg_of X G a, F.binds hb⟩
/-- a def of two parameters, the second one with an int as its default, called with both -/
def FunD2 (K : PySem.W.Frag) (mg : Str → Option Value) (x : Str) (st : Stmt) (ps : List Str) : Prop :=
  ∃ (f : Addr) (fd : FuncData), FunD K x x (defArgs st) (defBody st) (defScope st) [.int 1] [] f fd ∧ mg x = some (.ref f) ∧ PySem.W.keepIn K (.ref f) = true ∧ Binds K fd ps []
theorem FunD2.mk {x p q : Str} {st : Stmt} {f T : Addr} {od an dT : Option Addr} {sl slT : Array (Option Value)} {oc kV dc pm cd ct cT : Value} {nT : Nat} {tk : Tok}
    (hb : ∀ (T : Addr) (kV doc pm : Value) (an : Option Addr) (cdv ct : Value) (us its : List Value), us.length = 2 → its.length = ([V.int 1]).length →
      ∃ k, bindArgs (PySem.W.fnOf x x (defArgs st) (defBody st) (defScope st) (.ref T) kV doc pm an cdv ct) ⟨us, []⟩ = seqItems? (.ref T) >>= k ∧ k (some its.toArray) = pure ([p, q].zip (us ++ its.drop 1)))
    (X : K.In h) (G : h.Ns mainGlobals mg)
    (a : PySem.W.nsIn K mainGlobals x = some (some (.ref f))) (l : K.lookup f = some ⟨oc, od, .func (PySem.W.fnOf x x (defArgs st) (defBody st) (defScope st) (.ref T) kV dc pm an cd ct), sl⟩) (c : PySem.W.codeIn K cd x = true) (k : PySem.W.keepIn K (.ref f) = true)
    (lT : K.lookup T = some ⟨cT, dT, .seq #[.int 1 tk] nT, slT⟩) : FunD2 K mg x st [p, q] := by
  have F : FunD K x x (defArgs st) (defBody st) (defScope st) [.int 1] [] f _ := ⟨⟨oc, od, .ref T, kV, dc, pm, an, cd, ct, sl, rfl, l, c, .inr ⟨by simp, T, _, [.int 1 tk], nT, rfl, lT, rfl, .cons ⟨tk, rfl⟩ .nil⟩, .inl rfl⟩, k⟩
  obtain ⟨ds, hv, hB⟩ := F.binds1 (ps := [p, q]) 2 1 (by simp) rfl hb
  cases hv
  exact ⟨f, _, F, PySem.W.mg_of X G a, k, hB⟩
end
end Cs
set_option maxHeartbeats 4000000
namespace Cs
open PySem PySem.Spec PyProof.Rows L2
theorem sz_add2 {n m : Nat} {r s : Rat} (h : Sz n r) (g : Sz m s) : Sz (n + m + 1) (r + s) := by
  rw [← add_div]
  exact sz_div (Int.mul_ne_zero (den_ne r) (den_ne s)) (add_lt (pow_lt h.nn g.dd) (by rw [Nat.add_comm n m]; exact pow_lt g.nn h.dd)) (Nat.lt_trans (pow_lt h.dd g.dd) (Nat.pow_lt_pow_right (by decide) (by omega)))
theorem sz_mul2 {n m : Nat} {r s : Rat} (h : Sz n r) (g : Sz m s) : Sz (n + m) (r * s) := by
  rw [← mul_div]
  exact sz_div (Int.mul_ne_zero (den_ne r) (den_ne s)) (pow_lt h.nn g.nn) (pow_lt h.dd g.dd)
theorem sz_sub2 {n m : Nat} {r s : Rat} (h : Sz n r) (g : Sz m s) : Sz (n + m + 1) (r - s) := by
  rw [← sub_div]
  exact sz_div (Int.mul_ne_zero (den_ne r) (den_ne s)) (sub_lt (pow_lt h.nn g.dd) (by rw [Nat.add_comm n m]; exact pow_lt g.nn h.dd)) (Nat.lt_trans (pow_lt h.dd g.dd) (Nat.pow_lt_pow_right (by decide) (by omega)))
theorem sz_quo2 {n m : Nat} {r s : Rat} (h : Sz n r) (g : Sz m s) (hs : s.num ≠ 0) : Sz (n + m) (r / s) := by
  rw [← div_div]
  exact sz_div (Int.mul_ne_zero (den_ne r) hs) (pow_lt h.nn g.dd) (pow_lt h.dd g.nn)
theorem neg_num (r : Rat) : (-r).num = -r.num := rfl
theorem neg_den (r : Rat) : (-r).den = r.den := rfl
theorem sz_neg {n : Nat} {r : Rat} (h : Sz n r) : Sz n (-r) := ⟨by rw [neg_num, Int.natAbs_neg]; exact h.1, h.2⟩
theorem nd_neg (r : Rat) : nd (-r) = .tup [.int (-r.num), .int (r.den : Int)] := rfl
/-! ### an expression whose value is a fraction; a test -/
def EQ (te : TE) (σ : L2.St) (H : Hp) (r : Rat) : Prop := ∀ H1, Same H H1 → ∀ Q : VK, (∀ p H2, Same H1 H2 → H2 p = some (nd r) → Q (.ref p) H2) → te σ H1 Q
def EI (te : TE) (σ : L2.St) (H : Hp) (v : V) : Prop := ∀ H1, Same H H1 → ∀ Q : VK, (∀ H2, Same H1 H2 → Q v H2) → te σ H1 Q
def ET (tt : TT) (σ : L2.St) (H : Hp) (b : Bool) : Prop := ∀ H1, Same H H1 → ∀ Q : Bool → Hp → Prop, (∀ H2, Same H1 H2 → Q b H2) → tt σ H1 Q
section
variable {K : PySem.W.Frag} {σ : L2.St} {H : Hp} {ta tb : TE} {t u : TT} {r s : Rat} {E : XK}
theorem eq_var {i : Nat} {p : Addr} (h : σ[i]? = some (some (.ref p))) (hp : H p = some (nd r)) : EQ (tVar i) σ H r := fun H1 e Q q => ⟨.ref p, h, q p H1 (Same.refl H1) (e _ _ hp)⟩
theorem eq_op {f : Rat → Rat → Rat} {ok : Rat → Rat → Prop} (ha : EQ ta σ H r) (hb : EQ tb σ H s) (zr : Sz 1000 r) (zs : Sz 1000 s) (ho : ok r s) : EQ (tCall (spOp f ok) [] E (tCons ta (tCons tb tNil))) σ H (f r s) := fun H1 e Q q =>
  ha H1 e _ fun p H2 e2 hp => hb H2 (e.trans e2) _ fun p' H3 e3 hp' => ⟨p, p', r, s, rfl, e3 _ _ hp, hp', zr, zs, ho, fun t H4 e4 _ h4 => q t H4 ((e2.trans e3).trans e4) h4⟩
def spUn (f : Rat → Rat) : Sp := fun vs H Q _ => ∃ (a : Addr) (r : Rat), vs = [.ref a] ∧ H a = some (nd r) ∧ ∀ t H', Same H H' → H t = none → H' t = some (nd (f r)) → Q (.ref t) H'
theorem eq_un {f : Rat → Rat} (ha : EQ ta σ H r) : EQ (tCall (spUn f) [] E (tCons ta tNil)) σ H (f r) := fun H1 e Q q =>
  ha H1 e _ fun p H2 e2 hp => ⟨p, r, rfl, hp, fun t H4 e4 _ h4 => q t H4 (e2.trans e4) h4⟩
theorem eq_is (h : EQ ta σ H r) (e : r = s) : EQ ta σ H s := e ▸ h
/-- a pair written out -/
theorem eq_pair {p q : Int} (ha : EI ta σ H (.int p)) (hb : EI tb σ H (.int q)) (hp : r.num = p) (hq : (r.den : Int) = q) : EQ (tTup (tCons ta (tCons tb tNil))) σ H r := fun H1 e Q k =>
  ha H1 e _ fun H2 e2 => hb H2 (e.trans e2) _ fun H3 e3 => ⟨by show 2 ≤ sizeLine; decide, fun t ht => k t _ ((e2.trans e3).trans (Same.new ht)) (upd_same.trans (by rw [nd, hp, hq]))⟩
theorem ei_c {v : V} : EI (tC v) σ H v := fun H1 _ _ q => q H1 (Same.refl H1)
theorem ei_var {i : Nat} {v : V} (h : σ[i]? = some (some v)) : EI (tVar i) σ H v := fun H1 _ _ q => ⟨v, h, q H1 (Same.refl H1)⟩
theorem ei_fst {i : Nat} {p : Addr} (h : σ[i]? = some (some (.ref p))) (hp : H p = some (nd r)) : EI (tOp (rIxT K) (tVar i) (tC (.int 0))) σ H (.int r.num) := fun H1 e _ q =>
  ⟨_, h, _, _, _, _, rfl, rfl, SqT.of (e _ _ hp), rfl, q H1 (Same.refl H1)⟩
theorem ei_snd {i : Nat} {p : Addr} (h : σ[i]? = some (some (.ref p))) (hp : H p = some (nd r)) : EI (tOp (rIxT K) (tVar i) (tC (.int 1))) σ H (.int r.den) := fun H1 e _ q =>
  ⟨_, h, _, _, _, _, rfl, rfl, SqT.of (e _ _ hp), rfl, q H1 (Same.refl H1)⟩
theorem ei_neg {i : Int} (h : EI ta σ H (.int i)) : EI (tUn (rU fun i => .int (-i)) ta) σ H (.int (-i)) := fun H1 e _ q => h H1 e _ fun H2 e2 => ⟨i, rfl, q H2 e2⟩
theorem ei_mul {i j : Int} (h : EI ta σ H (.int i)) (g : EI tb σ H (.int j)) (k : IntMulOk i j) : EI (tOp (rI IntMulOk fun i j => .int (i * j)) ta tb) σ H (.int (i * j)) := fun H1 e _ q => h H1 e _ fun H2 e2 => g H2 (e.trans e2) _ fun H3 e3 => ⟨i, j, rfl, rfl, k, q H3 (e2.trans e3)⟩
theorem ei_add {i j : Int} (h : EI ta σ H (.int i)) (g : EI tb σ H (.int j)) : EI (tOp (rI0 fun i j => .int (i + j)) ta tb) σ H (.int (i + j)) := fun H1 e _ q => h H1 e _ fun H2 e2 => g H2 (e.trans e2) _ fun H3 e3 => ⟨i, j, rfl, rfl, q H3 (e2.trans e3)⟩
theorem ei_sub {i j : Int} (h : EI ta σ H (.int i)) (g : EI tb σ H (.int j)) : EI (tOp (rI0 fun i j => .int (i - j)) ta tb) σ H (.int (i - j)) := fun H1 e _ q => h H1 e _ fun H2 e2 => g H2 (e.trans e2) _ fun H3 e3 => ⟨i, j, rfl, rfl, q H3 (e2.trans e3)⟩
theorem eq_ratio {p q : Int} (ha : EI ta σ H (.int p)) (hb : EI tb σ H (.int q)) (q0 : q ≠ 0) (hp : p.natAbs < 2 ^ 2400) (hq : q.natAbs < 2 ^ 2400) : EQ (tCall spRatio [] E (tCons ta (tCons tb tNil))) σ H (Rat.divInt p q) := fun H1 e Q k =>
  ha H1 e _ fun H2 e2 => hb H2 (e.trans e2) _ fun H3 e3 => ⟨p, q, rfl, q0, hp, hq, fun t H4 e4 _ h4 => k t H4 ((e2.trans e3).trans e4) h4⟩
/-- not _law_same(x, y), of equal fractions -/
theorem et_same (ha : EQ ta σ H r) (hb : EQ tb σ H r) : ET (tNot (tB (tCall spSame [] E (tCons ta (tCons tb tNil))))) σ H false := fun H1 e Q k =>
  ha H1 e _ fun p H2 e2 hp => hb H2 (e.trans e2) _ fun p' H3 e3 hp' => .inr ⟨p, p', r, r, rfl, e3 _ _ hp, hp', true, by rw [decide_eq_true rfl], k H3 (e2.trans e3)⟩
theorem et_ne (ha : EQ ta σ H r) (hb : EQ tb σ H r) : ET (tTest (tOp (rNeD K) ta tb)) σ H false := fun H1 e Q k =>
  ha H1 e _ fun p H2 e2 hp => hb H2 (e.trans e2) _ fun p' H3 e3 hp' =>
    ⟨.tuple [.int r.num, .int r.den], .tuple [.int r.num, .int r.den], .tup (SqT.of (e3 _ _ hp)) (.cons (.int _) (.cons (.int _) .nil)), .tup (SqT.of hp') (.cons (.int _) (.cons (.int _) .nil)), by rfl, by rfl, false, by
      rw [show PyData.eqv (.tuple [.int r.num, .int r.den]) (.tuple [.int r.num, .int r.den]) = true from by simp [PyData.eqv, PyData.eqvAll]]; rfl, k H3 (e2.trans e3)⟩
theorem ei_eq (ha : EQ ta σ H r) (hb : EQ tb σ H r) : EI (tOp (rEqD K) ta tb) σ H (.bl true) := fun H1 e Q k =>
  ha H1 e _ fun p H2 e2 hp => hb H2 (e.trans e2) _ fun p' H3 e3 hp' =>
    ⟨.tuple [.int r.num, .int r.den], .tuple [.int r.num, .int r.den], .tup (SqT.of (e3 _ _ hp)) (.cons (.int _) (.cons (.int _) .nil)), .tup (SqT.of hp') (.cons (.int _) (.cons (.int _) .nil)), by rfl, by rfl, by
      rw [show PyData.eqv (.tuple [.int r.num, .int r.den]) (.tuple [.int r.num, .int r.den]) = true from by simp [PyData.eqv, PyData.eqvAll]]; exact k H3 (e2.trans e3)⟩
theorem et_or {b : Bool} (h : ET t σ H false) (g : ET u σ H b) : ET (tOr t u) σ H b := fun H1 e Q k => h H1 e _ fun H2 e2 => iteF (g H2 (e.trans e2) _ fun H3 e3 => k H3 (e2.trans e3))
theorem st_no {t' u' : TS} {D : Ends} {H1 : Hp} (h : ET t σ H false) (e : Same H H1) (k : ∀ H2, Same H H2 → u' D σ H2) : tIfS t t' u' D σ H1 := h H1 e _ fun H2 e2 => iteF (k H2 (e.trans e2))
theorem st_yes {t' u' : TS} {D : Ends} {H1 : Hp} (h : ET t σ H true) (e : Same H H1) (k : ∀ H2, Same H H2 → t' D σ H2) : tIfS t t' u' D σ H1 := h H1 e _ fun H2 e2 => iteT (k H2 (e.trans e2))
theorem ei_andV {x : Bool} (h : EI ta σ H (.bl true)) (g : EI tb σ H (.bl x)) : EI (tAndV ta tb) σ H (.bl x) := fun H1 e Q k => h H1 e _ fun H2 e2 => ⟨true, rfl, iteT (g H2 (e.trans e2) _ fun H3 e3 => k H3 (e2.trans e3))⟩
end
/-! ### an own error, raised without arguments -/
section
variable {X : Cx} {C : Addr} {bmB : List Value} {B newId initId : String}
theorem pmk_own0 {x : Str} {p pos : Pos} (F : ExcBaseFacts B newId initId bmB) (q : PySem.W.excIn X.K C bmB newId = true) (gC : X.mg x = some (.ref C)) (kC : PySem.W.keepIn X.K (.ref C) = true) (r : Raises X (.ref C)) (hg : Gl X x)
    (hdb : (x == ("__debug__" : Str)) = false := by decide) : PMk X (.Call (.Name x p) [] [] pos) (fun _ H Q => Q (.ref C) none H) := by
  intro pins s σ H Q I h
  refine wpAny_Call_Name_kw (ld_glob I hg gC ?_ hdb)
  refine PySem.W.callWith_K0 I.kIn kC ?_
  show wpAny _ _ (call (.ref C) []) _ _ _
  obtain ⟨bm, N, nm, qn, bs, hdct, sn, sub, ab, col, dd, k0, k1, k2, k3, k5, mN, hC, hN, hni, T⟩ := exc_obj I.kIn q
  refine wpAny_call_exc_subT F T hC hN hni (fun h' e hm => ?_) (by show 0 ≤ sizeLine; exact Nat.zero_le _)
  exact mk_of I hm r h (I.hok.gone hm.new)
end
/-- what the written part says of an own error class without __init__ over ValueError (perhaps by another own class) -/
structure ErrC (K : PySem.W.Frag) (mg : Str → Option Value) (x : Str) (C : Addr) : Prop where
  g : mg x = some (.ref C)
  ex : PySem.W.excIn K C [.type "ValueError", .type "Exception", .type "BaseException", .type "object"] "ValueError.__new__" = true
  kp : PySem.W.keepIn K (.ref C) = true
  sb : PySem.W.subIn K (.ref C) (.type "BaseException") = some true
  ty : PySem.W.typeIn K (.ref C) = some (.type "type")
/-- isinstance(e, c), e the exception that the suite holds, of the class at D without a dict -/
def tIsE (K : PySem.W.Frag) (D a : Addr) (cls : Value) (d : Option Addr) (ta : TA) : TE := fun σ H Q => cls = .ref D ∧ d = none ∧ tCB (rIsE K D a) ta σ H Q
theorem pe_isE {X : Cx} {a D : Addr} {oe : Obj} {cls : Value} {d : Option Addr} {pn : List (Addr × Obj)} {e : Expr} {es : List Expr} {t : TA} {p pos : Pos} (C : ExcC X.K D) (hz : Zc cls d oe) (hf : ∃ vs, oe.data = .fields vs)
    (hg : Gl (X.suite a ((a, oe) :: pn)) "isinstance") (hm : X.mg "isinstance" = none) (ha : PA (X.suite a ((a, oe) :: pn)) (e :: es) t)
    (he : starEach (e :: es) X.env = (false, eval e X.env) :: starEach es X.env := by rfl) (hpl : (backTo pos (starEach es X.env)).any (·.1) = false := by rfl) :
    PE (X.suite a ((a, oe) :: pn)) (.Call (.Name "isinstance" p) (e :: es) [] pos) (tIsE X.K D a cls d t) := by
  refine ⟨fun pins s σ H Q I h => ?_⟩
  obtain ⟨ec, ed, h⟩ := h
  subst ec
  subst ed
  exact (pe_callB (X := X.suite a ((a, oe) :: pn)) (call_isE C hz hf) hg hm (by decide +kernel) ha (by decide) (by decide) he hpl).run pins s σ H Q I h
end Cs
namespace Cs
open PySem PySem.Spec PyProof.Rows L2
/-! ### calls that raise -/
def CalX (P : Program) (w : World) (K : PySem.W.Frag) (mg : Str → Option Value) (base : Heap) (k : Nat) (x : Str) (ps : List Str) (sp : Sp) : Prop :=
  ∃ (f : Addr) (fd : FuncData), FnOk P w K mg base (L2.CX P w) k f fd ps sp ∧ mg x = some (.ref f) ∧ PySem.W.keepIn K (.ref f) = true ∧ Binds K fd ps []
section
variable {P : Program} {w : World} {K : PySem.W.Frag} {mg : Str → Option Value} {base : Heap} {k j : Nat} {x : Str} {ps : List Str} {sp : Sp} {st : Stmt}
theorem CalX.of (F : FunG K mg x st ps) (h : ∀ {f : Addr} {fd : FuncData}, Fun K x x st f fd → FnOk P w K mg base (L2.CX P w) k f fd ps sp) : CalX P w K mg base k x ps sp := by
  obtain ⟨f, fd, F, g, b⟩ := F
  exact ⟨f, fd, h F, g, F.kp, b⟩
theorem CalX.mono (c : CalX P w K mg base j x ps sp) (h : j ≤ k) : CalX P w K mg base k x ps sp := by
  obtain ⟨f, fd, F, g⟩ := c
  exact ⟨f, fd, F.mono h, g⟩
end
section
variable {X : Cx} {k : Nat} {x : Str} {ps : List Str} {sp : Sp} {p pos : Pos} {e : Expr} {es : List Expr} {t : TA}
theorem pe_calX {E : XK} (c : CalX X.prog X.w X.K X.mg X.base k x ps sp) (hr : Room k X.A) (hg : Gl X x) (hx : Passes (L2.CX X.prog X.w) X E) (ha : PA X (e :: es) t) (hdb : (x == ("__debug__" : Str)) = false := by decide)
    (he : starEach (e :: es) X.env = (false, eval e X.env) :: starEach es X.env := by rfl) (hpl : (backTo pos (starEach es X.env)).any (·.1) = false := by rfl) :
    PE X (.Call (.Name x p) (e :: es) [] pos) (tCall sp [] E t) := by
  obtain ⟨f, fd, F, g, kp, b⟩ := c
  exact pe_call F hr hg g kp b .nil hx ha hdb he hpl
theorem pe_calS {E : L2.St → XK} (c : CalX X.prog X.w X.K X.mg X.base k x ps sp) (hr : Room k X.A) (hg : Gl X x) (hx : ∀ σ, PassesAt (L2.CX X.prog X.w) X σ (E σ)) (ha : PA X (e :: es) t) (hdb : (x == ("__debug__" : Str)) = false := by decide)
    (he : starEach (e :: es) X.env = (false, eval e X.env) :: starEach es X.env := by rfl) (hpl : (backTo pos (starEach es X.env)).any (·.1) = false := by rfl) :
    PE X (.Call (.Name x p) (e :: es) [] pos) (tCallS sp E t) := by
  obtain ⟨f, fd, F, g, kp, b⟩ := c
  exact pe_callS F hr hg g kp b hx ha hdb he hpl
end
def spFracX (C : Addr) : Sp := fun vs H Q E => ∃ p : Int, vs = [.int p, .int 0] ∧ E (.ref C) none H
def spOverX (C : Addr) : Sp := fun vs H Q E => ∃ (a b : Addr) (r : Rat), vs = [.ref a, .ref b] ∧ H a = some (nd r) ∧ Sz 1000 r ∧ H b = some (nd 0) ∧ ∀ H', Same H H' → E (.ref C) none H'
def spRefused : Sp := fun vs H Q _ => ∃ (a : Addr) (r : Rat), vs = [.ref a] ∧ H a = some (nd r) ∧ Sz 1000 r ∧ ∀ H', Same H H' → Q (.bl true) H'
theorem ei_refused {σ : L2.St} {H : Hp} {ta : TE} {r : Rat} {E : XK} (ha : EQ ta σ H r) (z : Sz 1000 r) : EI (tCall spRefused [] E (tCons ta tNil)) σ H (.bl true) := fun H1 e Q q =>
  ha H1 e _ fun p H2 e2 hp => ⟨p, r, rfl, hp, z, fun H3 e3 => q H3 (e2.trans e3)⟩
end Cs
set_option maxHeartbeats 4000000
namespace Cs
open PySem PySem.Spec PyProof.Rows L2
/-! ### fractions that stand anywhere (a constant of the module too) -/
def ndl (r : Rat) : List V := [.int r.num, .int (r.den : Int)]
theorem nd_ndl (r : Rat) : nd r = .tup (ndl r) := rfl
section
variable {K : PySem.W.Frag} {H H' : Hp} {a d : Addr} {xs : List V}
theorem sqT_same (e : Same H H') (h : SqT K H a xs) : SqT K H' a xs := by
  rcases h with (h | ⟨o, h⟩) | h
  · exact .inl (.inl (e _ _ h))
  · exact .inl (.inr ⟨o, e _ _ h⟩)
  · exact .inr h
theorem sqT_but (e : But d H H') (hd : Deck K H d) (h : SqT K H a xs) : SqT K H' a xs := by
  obtain ⟨ys, hl⟩ := hd.lst
  rcases h with (h | ⟨o, h⟩) | h
  · exact .inl (.inl (e _ _ (ne_of h hl (fun z => nomatch z)) h))
  · exact .inl (.inr ⟨o, e _ _ (ne_of h hl (fun z => nomatch z)) h⟩)
  · exact .inr h
theorem ty_sqT (h : SqT K H a xs) : TyX K H (.ref a) (.type "tuple") := by
  rcases h with (h | ⟨o, h⟩) | ⟨o, its, n, h, hc, _⟩
  · exact .base (.tup h)
  · exact .fTuple h
  · exact .kTuple h hc
/-- a list of fractions -/
def RAll (K : PySem.W.Frag) (H : Hp) : List V → List Rat → Prop
  | [], [] => True
  | v :: vs, r :: rs => (∃ p, v = .ref p ∧ SqT K H p (ndl r)) ∧ RAll K H vs rs
  | _, _ => False
theorem RAll.len : ∀ {vs : List V} {rs : List Rat}, RAll K H vs rs → vs.length = rs.length
  | [], [], _ => rfl
  | _ :: _, _ :: _, h => congrArg (· + 1) (RAll.len h.2)
  | [], _ :: _, h => h.elim
  | _ :: _, [], h => h.elim
theorem RAll.imp {H' : Hp} (k : ∀ p r, SqT K H p (ndl r) → SqT K H' p (ndl r)) : ∀ {vs : List V} {rs : List Rat}, RAll K H vs rs → RAll K H' vs rs
  | [], [], _ => trivial
  | _ :: _, _ :: _, ⟨⟨p, e, h⟩, t⟩ => ⟨⟨p, e, k _ _ h⟩, RAll.imp k t⟩
  | [], _ :: _, h => h.elim
  | _ :: _, [], h => h.elim
theorem RAll.get : ∀ {vs : List V} {rs : List Rat} {i : Nat} {v : V}, RAll K H vs rs → vs[i]? = some v → ∃ p r, v = .ref p ∧ rs[i]? = some r ∧ SqT K H p (ndl r)
  | _ :: _, r :: _, 0, _, ⟨⟨p, e, h⟩, _⟩, hv => ⟨p, r, (Option.some.inj hv).symm.trans e, rfl, h⟩
  | _ :: _, _ :: _, i + 1, v, ⟨_, t⟩, hv => RAll.get (i := i) t hv
  | [], [], _, _, _, hv => by simp at hv
  | [], _ :: _, _, _, h, _ => h.elim
  | _ :: _, [], _, _, h, _ => h.elim
theorem RAll.snoc {p : Addr} {r : Rat} (hp : SqT K H p (ndl r)) : ∀ {vs : List V} {rs : List Rat}, RAll K H vs rs → RAll K H (vs ++ [.ref p]) (rs ++ [r])
  | [], [], _ => ⟨⟨p, rfl, hp⟩, trivial⟩
  | _ :: _, _ :: _, ⟨h, t⟩ => ⟨h, RAll.snoc hp t⟩
  | [], _ :: _, h => h.elim
  | _ :: _, [], h => h.elim
end
def psum (rs : List Rat) (i : Nat) : Rat := (rs.take i).foldl (fun x y => x + y) 0
def tsum (rs : List Rat) : Rat := rs.foldl (fun x y => x + y) 0
theorem psum_succ {rs : List Rat} {i : Nat} {r : Rat} (h : rs[i]? = some r) : psum rs (i + 1) = psum rs i + r := by
  unfold psum
  rw [List.take_add_one, h, List.foldl_append]
  rfl
theorem psum_all (rs : List Rat) : psum rs rs.length = tsum rs := by
  unfold psum tsum
  rw [List.take_length]
theorem psum_sz {rs : List Rat} (h : ∀ r ∈ rs, Sz 8 r) : ∀ i, i ≤ rs.length → Sz (9 * i + 1) (psum rs i)
  | 0, _ => by
    show Sz 1 (psum rs 0)
    unfold psum
    exact sz_zero (by decide)
  | i + 1, hi => by
    have hi2 : i < rs.length := by omega
    have e : rs[i]? = some rs[i] := List.getElem?_eq_getElem hi2
    rw [psum_succ e]
    exact (sz_add2 (psum_sz h i (by omega)) (h _ (List.getElem_mem hi2))).mono (by omega)
def spOpT (K : PySem.W.Frag) (f : Rat → Rat → Rat) (ok : Rat → Rat → Prop) : Sp := fun vs H Q _ => ∃ (a b : Addr) (r s : Rat), vs = [.ref a, .ref b] ∧ SqT K H a (ndl r) ∧ SqT K H b (ndl s) ∧ Sz 1000 r ∧ Sz 1000 s ∧ ok r s ∧ ∀ t H', Same H H' → H t = none → H' t = some (nd (f r s)) → Q (.ref t) H'
def spSameT (K : PySem.W.Frag) : Sp := fun vs H Q E => spSame0 vs H Q E ∨ ∃ (a b : Addr) (r s : Rat), vs = [.ref a, .ref b] ∧ SqT K H a (ndl r) ∧ SqT K H b (ndl s) ∧ Q (.bl (decide (r = s))) H
def spTotal (K : PySem.W.Frag) : Sp := fun vs H Q _ => ∃ (l : Addr) (xs : List V) (rs : List Rat), vs = [.ref l] ∧ SqL K H l xs ∧ RAll K H xs rs ∧ (∀ r ∈ rs, Sz 8 r) ∧ rs.length ≤ 100 ∧ ∀ p H', Same H H' → SqT K H' p (ndl (tsum rs)) → Q (.ref p) H'
def dot (rs ss : List Rat) : Rat := tsum (List.zipWith (fun x y => x * y) rs ss)
def spDot (K : PySem.W.Frag) : Sp := fun vs H Q _ => ∃ (l m : Addr) (xs ys : List V) (rs ss : List Rat), vs = [.ref l, .ref m] ∧ SqL K H l xs ∧ RAll K H xs rs ∧ SqL K H m ys ∧ RAll K H ys ss ∧ (∀ r ∈ rs, Sz 4 r) ∧ (∀ r ∈ ss, Sz 4 r) ∧ rs.length ≤ 100 ∧ rs.length = ss.length ∧ ∀ p H', Same H H' → SqT K H' p (ndl (dot rs ss)) → Q (.ref p) H'
end Cs
namespace Cs
open PySem PySem.Spec PyProof.Rows L2
section
variable {K : PySem.W.Frag} {H H' : Hp} {a d D : Addr} {xs ys : List V}
theorem sqT_upd {o : HO} (hd : H D = some (.lst ys)) (h : SqT K H a xs) : SqT K (upd H D o) a xs := by
  rcases h with (h | ⟨o', h⟩) | h
  · exact .inl (.inl (by rw [upd_ne (ne_of h hd (fun z => nomatch z))]; exact h))
  · exact .inl (.inr ⟨o', by rw [upd_ne (ne_of h hd (fun z => nomatch z))]; exact h⟩)
  · exact .inr h
theorem same_upd {o : HO} (e : Same H H') (hD : H D = none) : Same H (upd H' D o) := fun b x q => by
  rw [upd_ne (ne_of_none q hD)]
  exact e _ _ q
theorem RAll.same {vs : List V} {rs : List Rat} (e : Same H H') (h : RAll K H vs rs) : RAll K H' vs rs := h.imp fun _ _ q => sqT_same e q
theorem RAll.nth {vs : List V} {rs : List Rat} (h : RAll K H vs rs) {i : Nat} (hi : i < rs.length) : ∃ p r, vs[i]? = some (.ref p) ∧ rs[i]? = some r ∧ SqT K H p (ndl r) := by
  have hl := h.len
  have hv : vs[i]? = some vs[i] := List.getElem?_eq_getElem (by omega)
  obtain ⟨p, r, e, hr, hp⟩ := RAll.get h hv
  exact ⟨p, r, by rw [hv, e], hr, hp⟩
theorem take_snoc {rs : List Rat} {i : Nat} {r : Rat} (h : rs[i]? = some r) : rs.take (i + 1) = rs.take i ++ [r] := by
  rw [List.take_add_one, h]
  rfl
theorem zw_get {rs ss : List Rat} {i : Nat} {r s : Rat} (h : rs[i]? = some r) (g : ss[i]? = some s) : (List.zipWith (fun x y => x * y) rs ss)[i]? = some (r * s) := by
  rw [List.getElem?_zipWith, h, g]
theorem zw_len {rs ss : List Rat} (h : rs.length = ss.length) : (List.zipWith (fun x y : Rat => x * y) rs ss).length = rs.length := by
  rw [List.length_zipWith]; omega
theorem zw_sz : ∀ {rs ss : List Rat}, (∀ r ∈ rs, Sz 4 r) → (∀ r ∈ ss, Sz 4 r) → ∀ r ∈ List.zipWith (fun x y => x * y) rs ss, Sz 8 r
  | [], _, _, _, r, h => by simp at h
  | _ :: _, [], _, _, r, h => by simp at h
  | a :: rs, b :: ss, ha, hb, r, h => by
    rw [List.zipWith_cons_cons] at h
    rcases List.mem_cons.mp h with e | h
    · rw [e]
      exact sz_mul2 (ha a List.mem_cons_self) (hb b List.mem_cons_self)
    · exact zw_sz (fun r q => ha r (List.mem_cons_of_mem _ q)) (fun r q => hb r (List.mem_cons_of_mem _ q)) r h
theorem zw_comm : ∀ rs ss : List Rat, List.zipWith (fun x y : Rat => x * y) rs ss = List.zipWith (fun x y => x * y) ss rs
  | [], [] => rfl
  | [], _ :: _ => rfl
  | _ :: _, [] => rfl
  | a :: rs, b :: ss => by
    rw [List.zipWith_cons_cons, List.zipWith_cons_cons, zw_comm rs ss, show a * b = b * a by grind]
theorem dot_comm (rs ss : List Rat) : dot ss rs = dot rs ss := by unfold dot; rw [zw_comm]
theorem len_ok {xs : List V} (h : xs.length ≤ 1000) : xs.length < sizeLine := small1000 h
end
def spSmall (K : PySem.W.Frag) : Sp := fun vs H Q _ => ∃ d : Addr, vs = [.ref d] ∧ Deck K H d ∧ ∀ (t : Addr) (r : Rat) (H' : Hp), But d H H' → Deck K H' d → Sz 4 r → H' t = some (nd r) → Q (.ref t) H'
end Cs
namespace Cs
open PySem PySem.Spec PyProof.Rows L2
/-- the same rules inside a comprehension's block, K said -/
theorem ix_lstK {X : Cx} {K : PySem.W.Frag} (h : X.K = K) : IxR X (rIxL K) := h ▸ ix_list
theorem ix_tupK {X : Cx} {K : PySem.W.Frag} (h : X.K = K) : IxR X (rIxT K) := h ▸ ix_tup
end Cs
set_option maxHeartbeats 4000000
namespace Cs
open PySem PySem.Spec PyProof.Rows L2
/-! ### the deck, its list told -/
def DeckA (K : PySem.W.Frag) (H : Hp) (d l : Addr) (ns : List Int) : Prop := ∃ b c e : Int, H d = some (DeckO l b c e) ∧ SqL K H l (ns.map V.int) ∧ l ≠ d ∧ 0 ≤ b
section
variable {K : PySem.W.Frag} {H H' H1 : Hp} {d l D : Addr} {ns : List Int}
theorem deckA_of {b c e : Int} (hl : SqL K H l (ns.map V.int)) (ne : l ≠ d) (hb : But d H H1) (h : H1 d = some (DeckO l b c e)) (b0 : 0 ≤ b) : DeckA K H1 d l ns := ⟨b, c, e, h, hb.seq ne hl, ne, b0⟩
theorem DeckA.same (s : Same H H') (h : DeckA K H d l ns) : DeckA K H' d l ns := by
  obtain ⟨b, c, e, h1, h2, h3, h4⟩ := h
  exact ⟨b, c, e, s _ _ h1, s.seq h2, h3, h4⟩
theorem DeckA.lst (h : DeckA K H d l ns) : ∃ ys, H d = some (.lst ys) := by
  obtain ⟨b, c, e, h1, _⟩ := h
  exact ⟨_, h1⟩
theorem DeckA.deck (h : DeckA K H d l ns) : Deck K H d := by
  obtain ⟨b, c, e, h1, h2, h3, h4⟩ := h
  exact ⟨l, ns, b, c, e, h1, h2, h3, h4⟩
theorem seq_updNew {xs : List V} {o : HO} (h : SqL K H l xs) (hb : But d H H') (n : l ≠ d) (hD : H D = none) : SqL K (upd H' D o) l xs := by
  rcases h with (h | ⟨o', h⟩) | h
  · exact .inl (.inl (by rw [upd_ne (ne_of_none h hD)]; exact hb _ _ n h))
  · exact .inl (.inr ⟨o', by rw [upd_ne (ne_of_none h hD)]; exact hb _ _ n h⟩)
  · exact .inr h
/-- a list that the call makes is filled: the deck stands -/
theorem DeckA.fill {o : HO} (h0 : DeckA K H d l ns) (h : DeckA K H' d l ns) (hb : But d H H') (hD : H D = none) : DeckA K (upd H' D o) d l ns := by
  obtain ⟨b0, c0, e0, g1, g2, g3, _⟩ := h0
  obtain ⟨b, c, e, h1, _, _, h4⟩ := h
  exact ⟨b, c, e, by rw [upd_ne (ne_of_none g1 hD)]; exact h1, seq_updNew g2 hb g3 hD, g3, h4⟩
theorem but_upd {o : HO} (e : But d H H') (hD : H D = none) : But d H (upd H' D o) := fun b x n q => by
  rw [upd_ne (ne_of_none q hD)]
  exact e _ _ n q
theorem sqT_butA {a : Addr} {xs ys : List V} (e : But d H H') (hd : H d = some (.lst ys)) (h : SqT K H a xs) : SqT K H' a xs := by
  rcases h with (h | ⟨o, h⟩) | h
  · exact .inl (.inl (e _ _ (ne_of h hd (fun z => nomatch z)) h))
  · exact .inl (.inr ⟨o, e _ _ (ne_of h hd (fun z => nomatch z)) h⟩)
  · exact .inr h
end
def spDeckA (K : PySem.W.Frag) : Sp := fun vs H Q _ => ∃ (a : Addr) (ns : List Int), vs = [.ref a] ∧ SqL K H a (ns.map V.int) ∧ ∀ d l H', Same H H' → H d = none → DeckA K H' d l ns → Q (.ref d) H'
def spDrawA (K : PySem.W.Frag) : Sp := fun vs H Q _ => ∃ (d : Addr) (m : Int) (l : Addr) (ns : List Int), vs = [.ref d, .int m] ∧ 0 < m ∧ m.natAbs < 2 ^ 8000 ∧ DeckA K H d l ns ∧ ∀ v H', 0 ≤ v → v < m → But d H H' → DeckA K H' d l ns → Q (.int v) H'
def spSmallA (K : PySem.W.Frag) : Sp := fun vs H Q _ => ∃ (d l : Addr) (ns : List Int), vs = [.ref d] ∧ DeckA K H d l ns ∧ ∀ (t : Addr) (r : Rat) (H' : Hp), But d H H' → DeckA K H' d l ns → Sz 4 r → H' t = some (nd r) → Q (.ref t) H'
/-! ### values that stand anywhere -/
def EQT (K : PySem.W.Frag) (te : TE) (σ : L2.St) (H : Hp) (r : Rat) : Prop := ∀ H1, Same H H1 → ∀ Q : VK, (∀ p H2, Same H1 H2 → SqT K H2 p (ndl r) → Q (.ref p) H2) → te σ H1 Q
/-- a list of fractions, read or made -/
def ELT (K : PySem.W.Frag) (te : TE) (σ : L2.St) (H : Hp) (rs : List Rat) : Prop := ∀ H1, Same H H1 → ∀ Q : VK, (∀ p H2 xs, Same H1 H2 → SqL K H2 p xs → RAll K H2 xs rs → Q (.ref p) H2) → te σ H1 Q
section
variable {K : PySem.W.Frag} {σ : L2.St} {H : Hp} {ta tb : TE} {r s : Rat} {rs ss : List Rat} {E : XK}
theorem elt_var {i : Nat} {p : Addr} {xs : List V} (h : σ[i]? = some (some (.ref p))) (hl : SqL K H p xs) (ha : RAll K H xs rs) : ELT K (tVar i) σ H rs := fun H1 e Q q => ⟨.ref p, h, q p H1 xs (Same.refl H1) (e.seq hl) (ha.same e)⟩
theorem elt_nil : ELT K (tLst tNil) σ H [] := fun H1 e Q q => ⟨Nat.zero_le _, fun l hl => q l _ [] (Same.new hl) (SqL.of upd_same) trivial⟩
theorem eqt_pair {p q : Int} (hp : r.num = p) (hq : (r.den : Int) = q) : EQT K (tTup (tCons (tC (.int p)) (tCons (tC (.int q)) tNil))) σ H r := fun H1 e Q k =>
  ⟨by show 2 ≤ sizeLine; decide, fun t ht => k t _ (Same.new ht) (SqT.of (upd_same.trans (by rw [ndl, hp, hq])))⟩
theorem eqt_total (h : ELT K ta σ H rs) (z : ∀ r ∈ rs, Sz 8 r) (n : rs.length ≤ 100) : EQT K (tCall (spTotal K) [] E (tCons ta tNil)) σ H (tsum rs) := fun H1 e Q q =>
  h H1 e _ fun p H2 xs e2 hl ha => ⟨p, xs, rs, rfl, hl, ha, z, n, fun t H3 e3 ht => q t H3 (e2.trans e3) ht⟩
theorem eqt_dot (h : ELT K ta σ H rs) (g : ELT K tb σ H ss) (z : ∀ r ∈ rs, Sz 4 r) (y : ∀ r ∈ ss, Sz 4 r) (n : rs.length ≤ 100) (hl : rs.length = ss.length) : EQT K (tCall (spDot K) [] E (tCons ta (tCons tb tNil))) σ H (dot rs ss) := fun H1 e Q q =>
  h H1 e _ fun p H2 xs e2 hx ha => g H2 (e.trans e2) _ fun p' H3 ys e3 hy hb => ⟨p, p', xs, ys, rs, ss, rfl, e3.seq hx, ha.same e3, hy, hb, z, y, n, hl, fun t H4 e4 ht => q t H4 ((e2.trans e3).trans e4) ht⟩
theorem eqt_is (h : EQT K ta σ H r) (e : r = s) : EQT K ta σ H s := e ▸ h
theorem et_sameT (ha : EQT K ta σ H r) (hb : EQT K tb σ H r) : ET (tNot (tB (tCall (spSameT K) [] E (tCons ta (tCons tb tNil))))) σ H false := fun H1 e Q k =>
  ha H1 e _ fun p H2 e2 hp => hb H2 (e.trans e2) _ fun p' H3 e3 hp' => .inr ⟨p, p', r, r, rfl, sqT_same e3 hp, hp', true, by rw [decide_eq_true rfl], k H3 (e2.trans e3)⟩
theorem ei_sameT (ha : EQT K ta σ H r) (hb : EQT K tb σ H r) : EI (tCall (spSameT K) [] E (tCons ta (tCons tb tNil))) σ H (.bl true) := fun H1 e Q k =>
  ha H1 e _ fun p H2 e2 hp => hb H2 (e.trans e2) _ fun p' H3 e3 hp' => .inr ⟨p, p', r, r, rfl, sqT_same e3 hp, hp', by rw [decide_eq_true rfl]; exact k H3 (e2.trans e3)⟩
end
/-! ### lists of fractions as data -/
def dR (r : Rat) : PyData := .tuple [.int r.num, .int (r.den : Int)]
def dL (rs : List Rat) : PyData := .list (rs.map dR)
theorem canLay_dL : ∀ rs : List Rat, PyData.canLayAll0 (rs.map dR) = true
  | [] => rfl
  | r :: rs => by
    rw [List.map_cons, PyData.canLayAll0, canLay_dL rs]
    rfl
theorem depth_dL : ∀ rs : List Rat, PyData.depthAll (rs.map dR) ≤ 2
  | [] => by simp [PyData.depthAll]
  | r :: rs => by
    have h := depth_dL rs
    rw [List.map_cons, PyData.depthAll]
    have : (dR r).depth ≤ 2 := by simp [dR, PyData.depth, PyData.depthAll]
    omega
theorem shaped_dLL (rs ss : List Rat) : SeqAt.shaped (.list [dL rs, dL ss]) = true := by
  have h1 := canLay_dL rs
  have h2 := canLay_dL ss
  have d1 := depth_dL rs
  have d2 := depth_dL ss
  unfold SeqAt.shaped
  rw [Bool.and_eq_true]
  refine ⟨by simp [PyData.canLay0, PyData.canLayAll0, dL, h1, h2], decide_eq_true ?_⟩
  simp only [PyData.depth, PyData.depthAll, dL]
  omega
theorem dp_all {K : PySem.W.Frag} {H : Hp} : ∀ {xs : List V} {rs : List Rat}, RAll K H xs rs → DpAll K H xs (rs.map dR)
  | [], [], _ => .nil
  | _ :: _, r :: _, ⟨⟨p, e, h⟩, t⟩ => by
    rw [e]
    exact .cons (.tup h (.cons (.int _) (.cons (.int _) .nil))) (dp_all t)
  | [], _ :: _, h => h.elim
  | _ :: _, [], h => h.elim
end Cs
set_option maxHeartbeats 4000000
namespace Cs
open PySem PySem.Spec PyProof.Rows L2
def topS (i : Nat) : Stmt := PySem.Challenge.pw_consol_k03_lists_of_fractions.main.body.getD i (.Pass ⟨0, 0, 0, 0⟩)
local macro_rules | `(tactic| walk_at "rd") => `(tactic| (first
  | (refine ⟨_, rfl, ?_⟩)
  | (refine ⟨_, _, rfl, rfl, ?_⟩)
  | (refine .inl ⟨_, rfl, ?_⟩)
  | (refine .inr ⟨_, rfl, ?_⟩)
  | (refine ⟨_, _, _, _, rfl, rfl, SqL.of upd_same, rfl, ?_⟩)
  | (refine ⟨_, _, _, _, rfl, rfl, upd_same, rfl, ?_⟩)
  | (refine ⟨_, ?xs, _, ?v, rfl, rfl, ?h, ?x, ?_⟩; (case h => first | exact SqL.of (by assumption) | exact SqT.of (by assumption) | assumption); (case x => first | rfl | exact atI_nat (j := 0) rfl | exact atI_nat (j := 1) rfl))))
local macro_rules | `(tactic| walk_at "isi") => `(tactic| (first
  | (refine ⟨_, _, _, _, _, rfl, .ty _, .base (.int _), kit_ty kit_it, ?_⟩)
  | (refine ⟨_, _, _, _, _, rfl, .ty _, .base (.int _), kit_ty kit_ib, ?_⟩)
  | (refine ⟨_, _, _, _, _, rfl, .ty _, .base (.int _), kit_ty kit_ii, ?_⟩)
  | (refine ⟨_, _, _, _, _, rfl, .ty _, .base (.bl _), kit_ty kit_bt, ?_⟩)
  | (refine ⟨_, _, _, _, _, rfl, .ty _, .base (.bl _), kit_ty kit_bb, ?_⟩)
  | (refine ⟨_, _, _, _, _, rfl, .ty _, .base (.bl _), kit_ty kit_bi, ?_⟩)))
section
variable {P : Program} {w : World} {K : PySem.W.Frag} {mg : Str → Option Value} {base : Heap}
abbrev sDeck : Stmt := topS 12
theorem scDeck : FnScope ["script"] ["script"] (defScope sDeck) := ⟨rfl, rfl, rfl, by decide +kernel, rfl, by decide +kernel, by decide +kernel⟩
theorem ok_deck {f : Addr} {fd : FuncData} {k : Nat} (F : Fun K "_law_deck" "_law_deck" sDeck f fd) (z_list : mg "list" = none) : FnOk P w K mg base CX0 (k + 1) f fd ["script"] (spDeckA K) := by
  refine F.ok scDeck (fun vs H Q E h => ?_) (fun cdv A outer s H vs Q E hr h => ?_)
  · obtain ⟨a, ns, rfl, _⟩ := h
    rfl
  · obtain ⟨a, ns, rfl, hS, q⟩ := h
    refine ⟨_, (pss_one (ps_ret (pe_lst (pa_cons (pe_callTy call_list_of (by rfl) z_list (by decide +kernel) (pa_cons (pv 0) pa_nil)) (pa_cons pe_int (pa_cons pe_int (pa_cons pe_int pa_nil))))))), ?_⟩
    refine ⟨_, rfl, _, _, rfl, .inl hS, fun l hl => ?_⟩
    refine ⟨by show 4 ≤ sizeLine; decide, fun d hd => ?_⟩
    have hdl : d ≠ l := fun e => by rw [e, upd_same] at hd; cases hd
    have hd0 : H d = none := by rw [upd_ne hdl] at hd; exact hd
    refine q d l _ ((Same.new hl).trans (Same.new hd)) hd0 ⟨0, 0, 7, upd_same, .inl (.inl ?_), hdl.symm, Int.le_refl _⟩
    rw [upd_ne hdl.symm, upd_same]
abbrev sDraw : Stmt := topS 13
theorem scDraw : FnScope ["deck", "most", "value", "cell"] ["deck", "most"] (defScope sDraw) := ⟨rfl, rfl, rfl, by decide +kernel, rfl, by decide +kernel, by decide +kernel⟩
theorem ok_draw {f : Addr} {fd : FuncData} {k : Nat} (F : Fun K "_law_draw" "_law_draw" sDraw f fd) (z_len : mg "len" = none) (z_int : mg "int" = none) : FnOk P w K mg base CX0 (k + 1) f fd ["deck", "most"] (spDrawA K) := by
  refine F.ok scDraw (fun vs H Q E h => ?_) (fun cdv A outer s H vs Q E hr h => ?_)
  · obtain ⟨a, m, l, ns, rfl, _⟩ := h
    rfl
  · obtain ⟨d, m, l, ns, rfl, m0, mb, ⟨b, c, e, hd, hl, ne, b0⟩, q⟩ := h
    refine ⟨_, (pss_cons (ps_if (pt_cmpR op_ge (pe_ix ix_list (pv 0) pe_int (fun _ _ => rfl)) (pv 1) (nomark _)) (pss_cons (ps_set (i := 2) scDraw.nd rfl (Or.inl rfl) (pe_op op_mod (pe_callTy call_int1 (by rfl) z_int (by decide +kernel) (pa_cons (pe_ix ix_list (pv 0) pe_int (fun _ _ => rfl)) pa_nil)) (pv 1)))
      (pss_cons (ps_asg (pe_op op_fdivA (pe_ix ix_list (pv 0) pe_int (fun _ _ => rfl)) (pv 1)) (pg_sub (pv 0) pe_int set_list))
      (pss_one (ps_ret (pv 2))))) pss_nil)
      (pss_cons (ps_set (i := 3) scDraw.nd rfl (Or.inl rfl) pe_int)
      (pss_cons (ps_if (pt_cmpR op_lt (pe_ix ix_list (pv 0) pe_int (fun _ _ => rfl)) (pe_callB call_len_seq (by rfl) z_len PySem.boot_len (pa_cons (pe_ix ix_list (pv 0) pe_int (fun _ _ => rfl)) pa_nil)) (nomark _)) (pss_one (ps_set (i := 3) scDraw.nd rfl (Or.inl rfl) (pe_ix ix_list (pe_ix ix_list (pv 0) pe_int (fun _ _ => rfl)) (pe_ix ix_list (pv 0) pe_int (fun _ _ => rfl)) (fun _ _ => rfl)))) pss_nil)
      (pss_cons (ps_asg (pe_op op_add (pe_ix ix_list (pv 0) pe_int (fun _ _ => rfl)) pe_int) (pg_sub (pv 0) pe_int set_list))
      (pss_cons (ps_asg pe_int (pg_sub (pv 0) pe_int set_list))
      (pss_cons (ps_if (pt_cmpR op_ge (pv 3) (pe_op op_pow pe_int pe_int) (nomark _)) (pss_cons (ps_asg (pe_op op_fdivA (pv 3) (pv 1)) (pg_sub (pv 0) pe_int set_list))
      (pss_one (ps_ret (pe_op op_mod (pe_callTy call_int1 (by rfl) z_int (by decide +kernel) (pa_cons (pv 3) pa_nil)) (pv 1))))) pss_nil)
      (pss_cons (ps_asg (pe_op op_mod (pe_callTy call_int1 (by rfl) z_int (by decide +kernel) (pa_cons (pe_op op_add (pe_op op_add (pe_op op_mulA (pe_ix ix_list (pv 0) pe_int (fun _ _ => rfl)) pe_int) (pe_op op_mulA (pv 3) pe_int)) (pe_op op_mulA (pe_ix ix_list (pv 0) pe_int (fun _ _ => rfl)) pe_int)) pa_nil)) pe_int) (pg_sub (pv 0) pe_int set_list))
      (pss_cons (ps_asg (pe_op op_mod (pe_callTy call_int1 (by rfl) z_int (by decide +kernel) (pa_cons (pe_op op_add (pe_op op_mulA (pe_ix ix_list (pv 0) pe_int (fun _ _ => rfl)) pe_int) pe_int) pa_nil)) pe_int) (pg_sub (pv 0) pe_int set_list))
      (pss_one (ps_ret (pe_op op_mod (pe_callTy call_int1 (by rfl) z_int (by decide +kernel) (pa_cons (pe_op op_fdivA (pe_ix ix_list (pv 0) pe_int (fun _ _ => rfl)) pe_int) pa_nil)) (pv 1)))))))))))), ?_⟩
    have mb9 : m.natAbs < 2 ^ 9000 := Nat.lt_trans mb (Nat.pow_lt_pow_right (by decide) (by decide))
    repeat walk_at "rd"
    refine ite2 (fun h1 => ?_) (fun h1 => ?_)
    · repeat walk_at "rd"
      refine ⟨m0, ?_⟩
      repeat walk_at "rd"
      refine ⟨⟨by omega, mb9⟩, ?_⟩
      repeat walk_at "rd"
      exact q _ _ (Int.emod_nonneg _ (by omega)) (Int.emod_lt_of_pos _ m0) But.upd (deckA_of hl ne But.upd upd_same b0)
    · repeat walk_at "rd"
      refine ⟨_, _, rfl, .inl hl, ?_⟩
      repeat walk_at "rd"
      refine ite2 (fun h2 => ?_) (fun h2 => ?_)
      · repeat walk_at "rd"
        obtain ⟨z, hz⟩ := cell_at (ns := ns) b0 (by have := of_decide_eq_true h2; rw [List.length_map] at this; exact this)
        refine ⟨_, _, _, _, rfl, rfl, hl, hz, ?_⟩
        repeat walk_at "rd"
        refine ⟨⟨by decide, by decide, by decide⟩, ?_⟩
        repeat walk_at "rd"
        refine ite2 (fun h3 => ?_) (fun h3 => ?_)
        · repeat walk_at "rd"
          refine ⟨⟨by omega, mb9⟩, ?_⟩
          repeat walk_at "rd"
          refine ⟨m0, ?_⟩
          exact q _ _ (Int.emod_nonneg _ (by omega)) (Int.emod_lt_of_pos _ m0) (((But.upd.trans But.upd)).trans But.upd) (deckA_of hl ne (((But.upd.trans But.upd)).trans But.upd) upd_same (show (0 : Int) ≤ b + 1 by omega))
        · repeat walk_at "rd"
          refine ⟨mulR (by decide), ?_⟩
          repeat walk_at "rd"
          refine ⟨mulR (by decide), ?_⟩
          repeat walk_at "rd"
          refine ⟨mulR (by decide), ?_⟩
          repeat walk_at "rd"
          refine ⟨(show (0 : Int) < 2147483647 by decide), ?_⟩
          repeat walk_at "rd"
          refine ⟨mulR (by decide), ?_⟩
          repeat walk_at "rd"
          refine ⟨(show (0 : Int) < 2147483647 by decide), ?_⟩
          repeat walk_at "rd"
          refine ⟨⟨by decide, by decide⟩, ?_⟩
          repeat walk_at "rd"
          refine ⟨m0, ?_⟩
          exact q _ _ (Int.emod_nonneg _ (by omega)) (Int.emod_lt_of_pos _ m0) (((But.upd.trans But.upd).trans But.upd).trans But.upd) (deckA_of hl ne (((But.upd.trans But.upd).trans But.upd).trans But.upd) upd_same (show (0 : Int) ≤ b + 1 by omega))
      · repeat walk_at "rd"
        refine ⟨⟨by decide, by decide, by decide⟩, ?_⟩
        repeat walk_at "rd"
        repeat walk_at "rd"
        refine ⟨mulR (by decide), ?_⟩
        repeat walk_at "rd"
        refine ⟨mulR (by decide), ?_⟩
        repeat walk_at "rd"
        refine ⟨mulR (by decide), ?_⟩
        repeat walk_at "rd"
        refine ⟨(show (0 : Int) < 2147483647 by decide), ?_⟩
        repeat walk_at "rd"
        refine ⟨mulR (by decide), ?_⟩
        repeat walk_at "rd"
        refine ⟨(show (0 : Int) < 2147483647 by decide), ?_⟩
        repeat walk_at "rd"
        refine ⟨⟨by decide, by decide⟩, ?_⟩
        repeat walk_at "rd"
        refine ⟨m0, ?_⟩
        exact q _ _ (Int.emod_nonneg _ (by omega)) (Int.emod_lt_of_pos _ m0) (((But.upd.trans But.upd).trans But.upd).trans But.upd) (deckA_of hl ne (((But.upd.trans But.upd).trans But.upd).trans But.upd) upd_same (show (0 : Int) ≤ b + 1 by omega))
abbrev sGcd : Stmt := topS 15
theorem scGcd : FnScope ["a", "b", "k", "rest"] ["a", "b"] (defScope sGcd) := ⟨rfl, rfl, rfl, by decide +kernel, rfl, by decide +kernel, by decide +kernel⟩
theorem ok_gcd {f : Addr} {fd : FuncData} {k : Nat} (F : Fun K "_law_gcd" "_law_gcd" sGcd f fd) (z_range : mg "range" = none) (z_int : mg "int" = none) : FnOk P w K mg base CX0 (k + 1) f fd ["a", "b"] spGcd := by
  refine F.ok scGcd (fun vs H Q E h => ?_) (fun cdv A outer s H vs Q E hr h => ?_)
  · obtain ⟨a, b, rfl, _⟩ := h
    rfl
  · obtain ⟨a, b, rfl, ha, hb, q⟩ := h
    refine ⟨_, (pss_cons (ps_for PassesOwn.never rfl (pi_range1 rfl z_range (pa_cons pe_int pa_nil)) (pg_name (i := 2) scGcd.nd rfl (Or.inl rfl)) (pss_cons (ps_if (pt_cmpR op_eq (pv 1) pe_int (nomark _)) (pss_one (ps_ret (pv 0))) pss_nil)
      (pss_cons (ps_set (i := 3) scGcd.nd rfl (Or.inl rfl) (pe_op op_mod (pe_callTy call_int1 (by rfl) z_int (by decide +kernel) (pa_cons (pv 0) pa_nil)) (pv 1)))
      (pss_cons (ps_set (i := 0) scGcd.nd rfl (Or.inl rfl) (pv 1))
      (pss_one (ps_set (i := 1) scGcd.nd rfl (Or.inl rfl) (pv 3)))))))
      (pss_one (ps_ret (pv 0)))), ?_⟩
    have hab : a * b < 2 ^ 4800 := Nat.lt_of_lt_of_eq (Nat.mul_lt_mul'' ha hb) (Nat.pow_add 2 2400 2400).symm
    refine ⟨5000, rfl, by decide, by decide, for_range (n := 5000) (fun i σ H' => ∃ (x y : Nat) (k2 k3 : Option V), σ = [some (.int x), some (.int y), k2, k3] ∧ H' = H ∧ ((i ≤ 4801 ∧ EG (Nat.gcd a b) 4800 i x y) ∨ (y = 0 ∧ x = Nat.gcd a b))) ?_ ?_ ?_⟩
    · exact ⟨a, b, none, none, rfl, rfl, .inl ⟨by omega, EG.start hab⟩⟩
    · intro i σ H1 hi hP
      obtain ⟨x, y, k2, k3, rfl, rfl, hP⟩ := hP
      refine ⟨_, rfl, rfl, _, rfl, ite2 (fun h0 => ?_) (fun h0 => ?_)⟩
      · have hy : y = 0 := by have := V.int.inj (of_decide_eq_true h0); omega
        refine ⟨_, rfl, ?_⟩
        have hx : x = Nat.gcd a b := by
          rcases hP with ⟨_, hE⟩ | ⟨_, hx⟩
          · subst hy; exact hE.zero
          · exact hx
        subst hx
        exact q
      · have hy : 0 < y := by
          rcases Nat.eq_zero_or_pos y with z | z
          · subst z; exact absurd (decide_eq_true rfl) h0
          · exact z
        rcases hP with ⟨hi2, hE⟩ | ⟨z, _⟩
        · have hi3 : i ≤ 4800 := by
            rcases Nat.lt_or_ge i 4801 with z | z
            · omega
            · have e : i = 4801 := by omega
              subst e
              have := hE.last
              omega
          repeat walk_at "rd"
          refine ⟨(show (0 : Int) < (y : Int) by omega), ?_⟩
          repeat walk_at "rd"
          exact ⟨y, x % y, some (.int (0 + (i : Int))), some (.int ((x : Int) % (y : Int))), rfl, rfl, .inl ⟨by omega, hE.step hy hi3⟩⟩
        · omega
    · intro σ H1 hP
      obtain ⟨x, y, k2, k3, rfl, rfl, hP⟩ := hP
      refine ⟨_, rfl, ?_⟩
      rcases hP with ⟨z, _⟩ | ⟨_, hx⟩
      · omega
      · subst hx
        exact q
abbrev sRatio : Stmt := topS 16
theorem scRatio : FnScope ["p", "q", "divisor"] ["p", "q"] (defScope sRatio) := ⟨rfl, rfl, rfl, by decide +kernel, rfl, by decide +kernel, by decide +kernel⟩
theorem ok_ratio {f : Addr} {fd : FuncData} {k : Nat} (F : Fun K "_law_ratio" "_law_ratio" sRatio f fd) (c_law_gcd : Cal P w K mg base k "_law_gcd" ["a", "b"] spGcd) (z_abs : mg "abs" = none) : FnOk P w K mg base CX0 (k + 1) f fd ["p", "q"] spRatio := by
  refine F.ok scRatio (fun vs H Q E h => ?_) (fun cdv A outer s H vs Q E hr h => ?_)
  · obtain ⟨a, b, rfl, _⟩ := h
    rfl
  · obtain ⟨p, q, rfl, q0, hp, hq, out⟩ := h
    refine ⟨_, (pss_cons (ps_set (i := 2) scRatio.nd rfl (Or.inl rfl) (pe_cal c_law_gcd hr (by rfl) (pa_cons (pe_callB call_abs (by rfl) z_abs (by decide +kernel) (pa_cons (pv 0) pa_nil)) (pa_cons (pe_callB call_abs (by rfl) z_abs (by decide +kernel) (pa_cons (pv 1) pa_nil)) pa_nil))))
      (pss_cons (ps_if (pt_cmpR op_lt (pv 1) pe_int (nomark _)) (pss_one (ps_set (i := 2) scRatio.nd rfl (Or.inl rfl) (pe_un un_neg (pv 2)))) pss_nil)
      (pss_one (ps_ret (pe_tup (pa_cons (pe_op op_fdivA (pv 0) (pv 2)) (pa_cons (pe_op op_fdivA (pv 1) (pv 2)) pa_nil))))))), ?_⟩
    refine ⟨_, rfl, _, rfl, _, rfl, _, rfl, p.natAbs, q.natAbs, ?_, hp, hq, ?_⟩
    · have : ∀ z : Int, (if z < 0 then -z else z) = (z.natAbs : Int) := fun z => by split <;> omega
      rw [this, this]
      rfl
    have hg := gcd_pos p q q0
    have hgb : ((Nat.gcd p.natAbs q.natAbs : Nat) : Int).natAbs < 2 ^ 9000 := by
      rw [Int.natAbs_natCast]
      exact Nat.lt_of_le_of_lt (Nat.gcd_le_right _ (by omega)) (Nat.lt_trans hq (Nat.pow_lt_pow_right (by decide) (by decide)))
    have en := frac_num p q q0
    have ed := frac_den p q q0
    repeat walk_at "rd"
    refine ite2 (fun h1 => ?_) (fun h1 => ?_)
    · have h1' : q < 0 := of_decide_eq_true h1
      rw [if_pos h1'] at en ed
      repeat walk_at "rd"
      refine ⟨⟨by omega, by rw [Int.natAbs_neg]; exact hgb⟩, ?_⟩
      repeat walk_at "rd"
      refine ⟨⟨by omega, by rw [Int.natAbs_neg]; exact hgb⟩, by show 2 ≤ sizeLine; decide, fun t ht => ?_⟩
      refine out t _ (Same.new ht) ht (upd_same.trans ?_)
      show some (HO.tup [.int (p.fdiv _), .int (q.fdiv _)]) = some (HO.tup [.int _, .int _])
      rw [en, ed]
    · have h1' : ¬ q < 0 := fun z => h1 (decide_eq_true z)
      rw [if_neg h1'] at en ed
      repeat walk_at "rd"
      refine ⟨⟨by omega, hgb⟩, ?_⟩
      repeat walk_at "rd"
      refine ⟨⟨by omega, hgb⟩, by show 2 ≤ sizeLine; decide, fun t ht => ?_⟩
      refine out t _ (Same.new ht) ht (upd_same.trans ?_)
      show some (HO.tup [.int (p.fdiv _), .int (q.fdiv _)]) = some (HO.tup [.int _, .int _])
      rw [en, ed]
abbrev sFraction : Stmt := topS 6
theorem scFraction : FnScope ["p", "q", "divisor"] ["p", "q"] (defScope sFraction) := ⟨rfl, rfl, rfl, by decide +kernel, rfl, by decide +kernel, by decide +kernel⟩
theorem ok_fraction {f : Addr} {fd : FuncData} {k : Nat} (F : FunD K "fraction" "fraction" (defArgs sFraction) (defBody sFraction) (defScope sFraction) [.int 1] [] f fd) (m_gcd : mg "gcd" = some (.builtin "math.gcd")) : FnOk P w K mg base CX0 (k + 1) f fd ["p", "q"] spFrac := by
  refine F.ok scFraction (fun vs H Q E h => ?_) (fun cdv A outer s H vs Q E hr h => ?_)
  · obtain ⟨a, b, rfl, _⟩ := h
    rfl
  · obtain ⟨p, q, rfl, q0, hq, out⟩ := h
    refine ⟨_, (pss_cons (ps_if (pt_cmpR op_eq (pv 1) pe_int (nomark _)) (pss_one ps_never) pss_nil)
      (pss_cons (ps_set (i := 2) scFraction.nd rfl (Or.inl rfl) (pe_callBfun cr_gcd (by rfl) m_gcd (pa_cons (pv 0) (pa_cons (pv 1) pa_nil))))
      (pss_cons (ps_if (pt_cmpR op_lt (pv 1) pe_int (nomark _)) (pss_one (ps_set (i := 2) scFraction.nd rfl (Or.inl rfl) (pe_un un_neg (pv 2)))) pss_nil)
      (pss_one (ps_ret (pe_tup (pa_cons (pe_op op_fdivA (pv 0) (pv 2)) (pa_cons (pe_op op_fdivA (pv 1) (pv 2)) pa_nil)))))))), ?_⟩
    have hg := gcd_pos p q q0
    have hgb : ((Nat.gcd p.natAbs q.natAbs : Nat) : Int).natAbs < 2 ^ 9000 := by
      rw [Int.natAbs_natCast]
      exact Nat.lt_of_le_of_lt (Nat.gcd_le_right _ (by omega)) hq
    have en := frac_num p q q0
    have ed := frac_den p q q0
    refine ⟨_, rfl, rfl, _, rfl, ite2 (fun h0 => absurd (V.int.inj (of_decide_eq_true h0)) q0) (fun h0 => ?_)⟩
    refine ⟨_, rfl, _, rfl, _, _, rfl, ?_⟩
    repeat walk_at "rd"
    refine ite2 (fun h1 => ?_) (fun h1 => ?_)
    · have h1' : q < 0 := of_decide_eq_true h1
      rw [if_pos h1'] at en ed
      repeat walk_at "rd"
      refine ⟨⟨by omega, by rw [Int.natAbs_neg]; exact hgb⟩, ?_⟩
      repeat walk_at "rd"
      refine ⟨⟨by omega, by rw [Int.natAbs_neg]; exact hgb⟩, by show 2 ≤ sizeLine; decide, fun t ht => ?_⟩
      refine out t _ (Same.new ht) ht (upd_same.trans ?_)
      show some (HO.tup [.int (p.fdiv _), .int (q.fdiv _)]) = some (HO.tup [.int _, .int _])
      rw [en, ed]
    · have h1' : ¬ q < 0 := fun z => h1 (decide_eq_true z)
      rw [if_neg h1'] at en ed
      repeat walk_at "rd"
      refine ⟨⟨by omega, hgb⟩, ?_⟩
      repeat walk_at "rd"
      refine ⟨⟨by omega, hgb⟩, by show 2 ≤ sizeLine; decide, fun t ht => ?_⟩
      refine out t _ (Same.new ht) ht (upd_same.trans ?_)
      show some (HO.tup [.int (p.fdiv _), .int (q.fdiv _)]) = some (HO.tup [.int _, .int _])
      rw [en, ed]
abbrev sPlus : Stmt := topS 7
theorem scPlus : FnScope ["a", "b"] ["a", "b"] (defScope sPlus) := ⟨rfl, rfl, rfl, by decide +kernel, rfl, by decide +kernel, by decide +kernel⟩
theorem ok_plus {f : Addr} {fd : FuncData} {k : Nat} (F : Fun K "plus" "plus" sPlus f fd) (c_fraction : Cal P w K mg base k "fraction" ["p", "q"] spFrac) : FnOk P w K mg base CX0 (k + 1) f fd ["a", "b"] (spOpT K (fun r s => r + s) fun _ _ => True) := by
  refine F.ok scPlus (fun vs H Q E h => ?_) (fun cdv A outer s H vs Q E hr h => ?_)
  · obtain ⟨a, b, r, s, rfl, _⟩ := h
    rfl
  · obtain ⟨a, b, r, s, rfl, ha, hb, zr, zs, _, out⟩ := h
    refine ⟨_, (pss_one (ps_ret (pe_cal c_fraction hr (by rfl) (pa_cons (pe_op op_add (pe_op op_mulA (pe_ix ix_tup (pv 0) pe_int (fun _ _ => rfl)) (pe_ix ix_tup (pv 1) pe_int (fun _ _ => rfl))) (pe_op op_mulA (pe_ix ix_tup (pv 1) pe_int (fun _ _ => rfl)) (pe_ix ix_tup (pv 0) pe_int (fun _ _ => rfl)))) (pa_cons (pe_op op_mulA (pe_ix ix_tup (pv 0) pe_int (fun _ _ => rfl)) (pe_ix ix_tup (pv 1) pe_int (fun _ _ => rfl))) pa_nil))))), ?_⟩
    repeat walk_at "rd"
    refine ⟨mulZ zr.nn zs.dd, ?_⟩
    repeat walk_at "rd"
    refine ⟨mulZ zs.nn zr.dd, ?_⟩
    repeat walk_at "rd"
    refine ⟨mulZ zr.dd zs.dd, ?_⟩
    refine ⟨_, _, rfl, Int.mul_ne_zero (den_ne r) (den_ne s), lt9 (pow_lt zr.dd zs.dd) (by decide), fun t H' sm hn ht => ?_⟩
    rw [add_div] at ht
    exact out t H' sm hn ht
abbrev sSame : Stmt := topS 14
theorem scSame : FnScope ["actual", "due", "k"] ["actual", "due"] (defScope sSame) := ⟨rfl, rfl, rfl, by decide +kernel, rfl, by decide +kernel, by decide +kernel⟩
theorem ok_same0 {f : Addr} {fd : FuncData} {k : Nat} (F : Fun K "_law_same" "_law_same" sSame f fd) (z_isinstance : mg "isinstance" = none) (z_int : mg "int" = none) (z_bool : mg "bool" = none) (z_tuple : mg "tuple" = none) (z_str : mg "str" = none) : FnOk P w K mg base CX0 (k + 1) f fd ["actual", "due"] spSame0 := by
  refine F.ok scSame (fun vs H Q E h => ?_) (fun cdv A outer s H vs Q E hr h => ?_)
  · rcases h with ⟨i, j, rfl, _⟩ | ⟨i, j, rfl, _⟩ <;> rfl
  · refine ⟨_, (pss_cons (ps_if (pt_val (pe_callB call_isi (by rfl) z_isinstance (by decide +kernel) (pa_cons (pv 1) (pa_cons (pe_bltn (v := .ty "tuple") (by rfl) z_tuple (by decide +kernel) rfl) pa_nil)))) pss_never pss_nil)
      (pss_cons (ps_if (PW.pt (pw_or (pt_val (pe_callB call_isi (by rfl) z_isinstance (by decide +kernel) (pa_cons (pv 1) (pa_cons (pe_bltn (v := .ty "bool") (by rfl) z_bool (by decide +kernel) rfl) pa_nil)))) (pw_or1 (pt_val (pe_callB call_isi (by rfl) z_isinstance (by decide +kernel) (pa_cons (pv 0) (pa_cons (pe_bltn (v := .ty "bool") (by rfl) z_bool (by decide +kernel) rfl) pa_nil))))))) (pss_one (ps_ret (pe_and (pe_callB call_isi (by rfl) z_isinstance (by decide +kernel) (pa_cons (pv 1) (pa_cons (pe_bltn (v := .ty "bool") (by rfl) z_bool (by decide +kernel) rfl) pa_nil))) (pe_and (pe_callB call_isi (by rfl) z_isinstance (by decide +kernel) (pa_cons (pv 0) (pa_cons (pe_bltn (v := .ty "bool") (by rfl) z_bool (by decide +kernel) rfl) pa_nil))) (pe_one (pe_cmpR op_eq (pv 1) (pv 0) (nomark _))))))) pss_nil)
      (pss_cons (ps_if (pt_val (pe_callB call_isi (by rfl) z_isinstance (by decide +kernel) (pa_cons (pv 1) (pa_cons (pe_bltn (v := .ty "int") (by rfl) z_int (by decide +kernel) rfl) pa_nil)))) (pss_one (ps_ret (pe_and (pe_callB call_isi (by rfl) z_isinstance (by decide +kernel) (pa_cons (pv 0) (pa_cons (pe_bltn (v := .ty "int") (by rfl) z_int (by decide +kernel) rfl) pa_nil))) (pe_one (pe_cmpR op_eq (pv 0) (pv 1) (nomark _)))))) pss_nil)
      (pss_cons (ps_if (pt_val (pe_callB call_isi (by rfl) z_isinstance (by decide +kernel) (pa_cons (pv 1) (pa_cons (pe_bltn (v := .ty "str") (by rfl) z_str (by decide +kernel) rfl) pa_nil)))) (pss_one (ps_ret (pe_and (pe_callB call_isi (by rfl) z_isinstance (by decide +kernel) (pa_cons (pv 0) (pa_cons (pe_bltn (v := .ty "str") (by rfl) z_str (by decide +kernel) rfl) pa_nil))) (pe_one (pe_cmpR op_eq (pv 0) (pv 1) (nomark _)))))) pss_nil)
      (pss_one (ps_ret (pe_and (pe_cmpR op_isN (pv 1) pe_non (nomark _)) (pe_one (pe_cmpR op_isN (pv 0) pe_non (nomark _)))))))))), ?_⟩
    rcases h with ⟨i, j, rfl, out⟩ | ⟨i, j, rfl, out⟩
    · repeat (first | walk_at "rd" | walk_at "isi" | refine iteF ?_ | refine iteT ?_)
      refine ⟨rfl, ?_⟩
      rw [show decide (V.int i = V.int j) = decide (i = j) from decide_eq_decide.mpr ⟨fun z => V.int.inj z, fun z => congrArg V.int z⟩]
      exact out
    · repeat (first | walk_at "rd" | walk_at "isi" | refine iteF ?_ | refine iteT ?_)
      refine ⟨rfl, ?_⟩
      rw [show decide (V.bl j = V.bl i) = decide (i = j) from decide_eq_decide.mpr ⟨fun z => (V.bl.inj z).symm, fun z => congrArg V.bl z.symm⟩]
      exact out
theorem ok_same {f : Addr} {fd : FuncData} {k : Nat} (F : Fun K "_law_same" "_law_same" sSame f fd) (c_law_same : Cal P w K mg base k "_law_same" ["actual", "due"] spSame0) (z_isinstance : mg "isinstance" = none) (z_int : mg "int" = none) (z_bool : mg "bool" = none) (z_tuple : mg "tuple" = none) (z_str : mg "str" = none) (z_len : mg "len" = none) (z_range : mg "range" = none) : FnOk P w K mg base CX0 (k + 1) f fd ["actual", "due"] (spSameT K) := by
  refine F.ok scSame (fun vs H Q E h => ?_) (fun cdv A outer s H vs Q E hr h => ?_)
  · rcases h with (⟨i, j, rfl, _⟩ | ⟨i, j, rfl, _⟩) | ⟨a, b, r, s, rfl, _⟩ <;> rfl
  · refine ⟨_, (pss_cons (ps_if (pt_val (pe_callB call_isi (by rfl) z_isinstance (by decide +kernel) (pa_cons (pv 1) (pa_cons (pe_bltn (v := .ty "tuple") (by rfl) z_tuple (by decide +kernel) rfl) pa_nil)))) (pss_cons (ps_if (PW.pt (pw_or (pt_not (pt_val (pe_callB call_isi (by rfl) z_isinstance (by decide +kernel) (pa_cons (pv 0) (pa_cons (pe_bltn (v := .ty "tuple") (by rfl) z_tuple (by decide +kernel) rfl) pa_nil))))) (pw_or1 (pt_cmpR op_ne (pe_callB call_len_seq (by rfl) z_len PySem.boot_len (pa_cons (pv 0) pa_nil)) (pe_callB call_len_seq (by rfl) z_len PySem.boot_len (pa_cons (pv 1) pa_nil)) (nomark _))))) (pss_one (ps_ret pe_bl)) pss_nil)
      (pss_cons (ps_for PassesOwn.never rfl (pi_range1 rfl z_range (pa_cons (pe_callB call_len_seq (by rfl) z_len PySem.boot_len (pa_cons (pv 1) pa_nil)) pa_nil)) (pg_name (i := 2) scSame.nd rfl (Or.inl rfl)) (pss_one (ps_if (pt_not (pt_val (pe_cal c_law_same hr (by rfl) (pa_cons (pe_ix ix_tup (pv 0) (pv 2) (fun _ _ => rfl)) (pa_cons (pe_ix ix_tup (pv 1) (pv 2) (fun _ _ => rfl)) pa_nil))))) (pss_one (ps_ret pe_bl)) pss_nil)))
      (pss_one (ps_ret pe_bl)))) pss_nil)
      (pss_cons (ps_if (PW.pt (pw_or (pt_val (pe_callB call_isi (by rfl) z_isinstance (by decide +kernel) (pa_cons (pv 1) (pa_cons (pe_bltn (v := .ty "bool") (by rfl) z_bool (by decide +kernel) rfl) pa_nil)))) (pw_or1 (pt_val (pe_callB call_isi (by rfl) z_isinstance (by decide +kernel) (pa_cons (pv 0) (pa_cons (pe_bltn (v := .ty "bool") (by rfl) z_bool (by decide +kernel) rfl) pa_nil))))))) (pss_one (ps_ret (pe_and (pe_callB call_isi (by rfl) z_isinstance (by decide +kernel) (pa_cons (pv 1) (pa_cons (pe_bltn (v := .ty "bool") (by rfl) z_bool (by decide +kernel) rfl) pa_nil))) (pe_and (pe_callB call_isi (by rfl) z_isinstance (by decide +kernel) (pa_cons (pv 0) (pa_cons (pe_bltn (v := .ty "bool") (by rfl) z_bool (by decide +kernel) rfl) pa_nil))) (pe_one (pe_cmpR op_eq (pv 1) (pv 0) (nomark _))))))) pss_nil)
      (pss_cons (ps_if (pt_val (pe_callB call_isi (by rfl) z_isinstance (by decide +kernel) (pa_cons (pv 1) (pa_cons (pe_bltn (v := .ty "int") (by rfl) z_int (by decide +kernel) rfl) pa_nil)))) (pss_one (ps_ret (pe_and (pe_callB call_isi (by rfl) z_isinstance (by decide +kernel) (pa_cons (pv 0) (pa_cons (pe_bltn (v := .ty "int") (by rfl) z_int (by decide +kernel) rfl) pa_nil))) (pe_one (pe_cmpR op_eq (pv 0) (pv 1) (nomark _)))))) pss_nil)
      (pss_cons (ps_if (pt_val (pe_callB call_isi (by rfl) z_isinstance (by decide +kernel) (pa_cons (pv 1) (pa_cons (pe_bltn (v := .ty "str") (by rfl) z_str (by decide +kernel) rfl) pa_nil)))) (pss_one (ps_ret (pe_and (pe_callB call_isi (by rfl) z_isinstance (by decide +kernel) (pa_cons (pv 0) (pa_cons (pe_bltn (v := .ty "str") (by rfl) z_str (by decide +kernel) rfl) pa_nil))) (pe_one (pe_cmpR op_eq (pv 0) (pv 1) (nomark _)))))) pss_nil)
      (pss_one (ps_ret (pe_and (pe_cmpR op_isN (pv 1) pe_non (nomark _)) (pe_one (pe_cmpR op_isN (pv 0) pe_non (nomark _)))))))))), ?_⟩
    rcases h with (⟨i, j, rfl, out⟩ | ⟨i, j, rfl, out⟩) | ⟨a, b, r, s, rfl, ha, hb, out⟩
    · repeat (first | walk_at "rd" | walk_at "isi" | refine iteF ?_ | refine iteT ?_)
      refine ⟨rfl, ?_⟩
      rw [show decide (V.int i = V.int j) = decide (i = j) from decide_eq_decide.mpr ⟨fun z => V.int.inj z, fun z => congrArg V.int z⟩]
      exact out
    · repeat (first | walk_at "rd" | walk_at "isi" | refine iteF ?_ | refine iteT ?_)
      refine ⟨rfl, ?_⟩
      rw [show decide (V.bl j = V.bl i) = decide (i = j) from decide_eq_decide.mpr ⟨fun z => (V.bl.inj z).symm, fun z => congrArg V.bl z.symm⟩]
      exact out
    · refine ⟨_, rfl, _, _, _, _, _, rfl, .ty _, ty_sqT hb, kit_ty kit_tt, _, rfl, iteT ?_⟩
      refine ⟨_, rfl, _, _, _, _, _, rfl, .ty _, ty_sqT ha, kit_ty kit_tt, _, rfl, iteF ?_⟩
      refine ⟨_, rfl, _, _, rfl, .inr ha, _, rfl, _, _, rfl, .inr hb, rfl, _, rfl, iteNS rfl ?_⟩
      refine ⟨_, rfl, _, _, rfl, .inr hb, 2, rfl, by decide, by decide, for_range (n := 2) (fun i σ H' => ∃ k2 : Option V, σ = [some (.ref a), some (.ref b), k2] ∧ H' = H ∧ (i = 0 ∨ (i = 1 ∧ r.num = s.num) ∨ (i = 2 ∧ r = s))) ⟨none, rfl, rfl, .inl rfl⟩ ?_ ?_⟩
      · rintro i σ H1 hi ⟨k2, rfl, rfl, hP⟩
        have hi2 : i = 0 ∨ i = 1 := by omega
        rcases hi2 with rfl | rfl
        · refine ⟨_, rfl, _, rfl, _, _, _, _, rfl, rfl, ha, rfl, _, rfl, _, rfl, _, _, _, _, rfl, rfl, hb, rfl, .inl ⟨_, _, rfl, _, rfl, ?_⟩⟩
          by_cases e : r.num = s.num
          · exact iteNS e ⟨some (.int 0), rfl, rfl, .inr (.inl ⟨rfl, e⟩)⟩
          · have er : ¬ r = s := fun z => e (by rw [z])
            rw [decide_eq_false er] at out
            rw [decide_eq_false e]
            exact iteT out
        · refine ⟨_, rfl, _, rfl, _, _, _, _, rfl, rfl, ha, rfl, _, rfl, _, rfl, _, _, _, _, rfl, rfl, hb, rfl, .inl ⟨_, _, rfl, _, rfl, ?_⟩⟩
          have en : r.num = s.num := by omega
          by_cases e : (r.den : Int) = (s.den : Int)
          · exact iteNS e ⟨some (.int 1), rfl, rfl, .inr (.inr ⟨rfl, nd_inj en e⟩)⟩
          · have er : ¬ r = s := fun z => e (by rw [z])
            rw [decide_eq_false er] at out
            rw [decide_eq_false e]
            exact iteT out
      · rintro σ H1 ⟨k2, rfl, rfl, hP⟩
        have e : r = s := by
          rcases hP with z | ⟨z, _⟩ | ⟨_, z⟩
          · omega
          · omega
          · exact z
        rw [decide_eq_true e] at out
        exact out
abbrev sTimes : Stmt := topS 8
theorem scTimes : FnScope ["a", "b"] ["a", "b"] (defScope sTimes) := ⟨rfl, rfl, rfl, by decide +kernel, rfl, by decide +kernel, by decide +kernel⟩
theorem ok_times {f : Addr} {fd : FuncData} {k : Nat} (F : Fun K "times" "times" sTimes f fd) (c_fraction : Cal P w K mg base k "fraction" ["p", "q"] spFrac) : FnOk P w K mg base CX0 (k + 1) f fd ["a", "b"] (spOpT K (fun r s => r * s) fun _ _ => True) := by
  refine F.ok scTimes (fun vs H Q E h => ?_) (fun cdv A outer s H vs Q E hr h => ?_)
  · obtain ⟨a, b, r, s, rfl, _⟩ := h
    rfl
  · obtain ⟨a, b, r, s, rfl, ha, hb, zr, zs, ho, out⟩ := h
    refine ⟨_, (pss_one (ps_ret (pe_cal c_fraction hr (by rfl) (pa_cons (pe_op op_mulA (pe_ix ix_tup (pv 0) pe_int (fun _ _ => rfl)) (pe_ix ix_tup (pv 1) pe_int (fun _ _ => rfl))) (pa_cons (pe_op op_mulA (pe_ix ix_tup (pv 0) pe_int (fun _ _ => rfl)) (pe_ix ix_tup (pv 1) pe_int (fun _ _ => rfl))) pa_nil))))), ?_⟩
    repeat walk_at "rd"
    refine ⟨mulZ zr.nn zs.nn, ?_⟩
    repeat walk_at "rd"
    refine ⟨mulZ zr.dd zs.dd, ?_⟩
    refine ⟨_, _, rfl, Int.mul_ne_zero (den_ne r) (den_ne s), lt9 (pow_lt zr.dd zs.dd) (by decide), fun t H' sm hn ht => ?_⟩
    rw [mul_div] at ht
    exact out t H' sm hn ht
abbrev sLAdd : Stmt := topS 17
theorem scLAdd : FnScope ["a", "b"] ["a", "b"] (defScope sLAdd) := ⟨rfl, rfl, rfl, by decide +kernel, rfl, by decide +kernel, by decide +kernel⟩
theorem ok_law_add {f : Addr} {fd : FuncData} {k : Nat} (F : Fun K "_law_add" "_law_add" sLAdd f fd) (c_law_ratio : Cal P w K mg base k "_law_ratio" ["p", "q"] spRatio) : FnOk P w K mg base CX0 (k + 1) f fd ["a", "b"] (spOpT K (fun r s => r + s) fun _ _ => True) := by
  refine F.ok scLAdd (fun vs H Q E h => ?_) (fun cdv A outer s H vs Q E hr h => ?_)
  · obtain ⟨a, b, r, s, rfl, _⟩ := h
    rfl
  · obtain ⟨a, b, r, s, rfl, ha, hb, zr, zs, ho, out⟩ := h
    refine ⟨_, (pss_one (ps_ret (pe_cal c_law_ratio hr (by rfl) (pa_cons (pe_op op_add (pe_op op_mulA (pe_ix ix_tup (pv 0) pe_int (fun _ _ => rfl)) (pe_ix ix_tup (pv 1) pe_int (fun _ _ => rfl))) (pe_op op_mulA (pe_ix ix_tup (pv 1) pe_int (fun _ _ => rfl)) (pe_ix ix_tup (pv 0) pe_int (fun _ _ => rfl)))) (pa_cons (pe_op op_mulA (pe_ix ix_tup (pv 0) pe_int (fun _ _ => rfl)) (pe_ix ix_tup (pv 1) pe_int (fun _ _ => rfl))) pa_nil))))), ?_⟩
    repeat walk_at "rd"
    refine ⟨mulZ zr.nn zs.dd, ?_⟩
    repeat walk_at "rd"
    refine ⟨mulZ zs.nn zr.dd, ?_⟩
    repeat walk_at "rd"
    refine ⟨mulZ zr.dd zs.dd, ?_⟩
    refine ⟨_, _, rfl, Int.mul_ne_zero (den_ne r) (den_ne s), (Nat.lt_of_lt_of_le (add_lt (pow_lt zr.nn zs.dd) (pow_lt zs.nn zr.dd)) (Nat.pow_le_pow_right (by decide) (by decide))), (Nat.lt_of_lt_of_le (pow_lt zr.dd zs.dd) (Nat.pow_le_pow_right (by decide) (by decide))), fun t H' sm hn ht => ?_⟩
    rw [add_div] at ht
    exact out t H' sm hn ht
abbrev sLTimes : Stmt := topS 18
theorem scLTimes : FnScope ["a", "b"] ["a", "b"] (defScope sLTimes) := ⟨rfl, rfl, rfl, by decide +kernel, rfl, by decide +kernel, by decide +kernel⟩
theorem ok_law_times {f : Addr} {fd : FuncData} {k : Nat} (F : Fun K "_law_times" "_law_times" sLTimes f fd) (c_law_ratio : Cal P w K mg base k "_law_ratio" ["p", "q"] spRatio) : FnOk P w K mg base CX0 (k + 1) f fd ["a", "b"] (spOpT K (fun r s => r * s) fun _ _ => True) := by
  refine F.ok scLTimes (fun vs H Q E h => ?_) (fun cdv A outer s H vs Q E hr h => ?_)
  · obtain ⟨a, b, r, s, rfl, _⟩ := h
    rfl
  · obtain ⟨a, b, r, s, rfl, ha, hb, zr, zs, ho, out⟩ := h
    refine ⟨_, (pss_one (ps_ret (pe_cal c_law_ratio hr (by rfl) (pa_cons (pe_op op_mulA (pe_ix ix_tup (pv 0) pe_int (fun _ _ => rfl)) (pe_ix ix_tup (pv 1) pe_int (fun _ _ => rfl))) (pa_cons (pe_op op_mulA (pe_ix ix_tup (pv 0) pe_int (fun _ _ => rfl)) (pe_ix ix_tup (pv 1) pe_int (fun _ _ => rfl))) pa_nil))))), ?_⟩
    repeat walk_at "rd"
    refine ⟨mulZ zr.nn zs.nn, ?_⟩
    repeat walk_at "rd"
    refine ⟨mulZ zr.dd zs.dd, ?_⟩
    refine ⟨_, _, rfl, Int.mul_ne_zero (den_ne r) (den_ne s), (Nat.lt_of_lt_of_le (pow_lt zr.nn zs.nn) (Nat.pow_le_pow_right (by decide) (by decide))), (Nat.lt_of_lt_of_le (pow_lt zr.dd zs.dd) (Nat.pow_le_pow_right (by decide) (by decide))), fun t H' sm hn ht => ?_⟩
    rw [mul_div] at ht
    exact out t H' sm hn ht
end
end Cs
set_option maxHeartbeats 4000000
namespace Cs
open PySem PySem.Spec PyProof.Rows L2
local macro_rules | `(tactic| walk_at "rd") => `(tactic| (first
  | (refine ⟨_, rfl, ?_⟩)
  | (refine ⟨_, _, rfl, rfl, ?_⟩)
  | (refine .inl ⟨_, rfl, ?_⟩)
  | (refine .inr ⟨_, rfl, ?_⟩)
  | (refine ⟨_, _, _, _, rfl, rfl, SqL.of upd_same, rfl, ?_⟩)
  | (refine ⟨_, _, _, _, rfl, rfl, upd_same, rfl, ?_⟩)
  | (refine ⟨_, ?xs, _, ?v, rfl, rfl, ?h, ?x, ?_⟩; (case h => first | exact SqL.of (by assumption) | exact SqT.of (by assumption) | assumption); (case x => first | rfl | exact atI_nat (j := 0) rfl | exact atI_nat (j := 1) rfl))))
local macro_rules | `(tactic| walk_at "isi") => `(tactic| (first
  | (refine ⟨_, _, _, _, _, rfl, .ty _, .base (.int _), kit_ty kit_it, ?_⟩)
  | (refine ⟨_, _, _, _, _, rfl, .ty _, .base (.int _), kit_ty kit_ib, ?_⟩)
  | (refine ⟨_, _, _, _, _, rfl, .ty _, .base (.int _), kit_ty kit_ii, ?_⟩)
  | (refine ⟨_, _, _, _, _, rfl, .ty _, .base (.bl _), kit_ty kit_bt, ?_⟩)
  | (refine ⟨_, _, _, _, _, rfl, .ty _, .base (.bl _), kit_ty kit_bb, ?_⟩)
  | (refine ⟨_, _, _, _, _, rfl, .ty _, .base (.bl _), kit_ty kit_bi, ?_⟩)))
section
variable {P : Program} {w : World} {K : PySem.W.Frag} {mg : Str → Option Value} {base : Heap}
abbrev sTotal : Stmt := topS 9
theorem scTotal : FnScope ["values", "result", "value"] ["values"] (defScope sTotal) := ⟨rfl, rfl, rfl, by decide +kernel, rfl, by decide +kernel, by decide +kernel⟩
abbrev sProducts : Stmt := topS 10
theorem scProducts : FnScope ["first", "second", "a", "b"] ["first", "second"] (defScope sProducts) := ⟨rfl, rfl, rfl, by decide +kernel, rfl, by decide +kernel, by decide +kernel⟩
abbrev sLTotal : Stmt := topS 19
theorem scLTotal : FnScope ["values", "result", "value"] ["values"] (defScope sLTotal) := ⟨rfl, rfl, rfl, by decide +kernel, rfl, by decide +kernel, by decide +kernel⟩
abbrev sLDot : Stmt := topS 20
theorem scLDot : FnScope ["first", "second", "k"] ["first", "second"] (defScope sLDot) := ⟨rfl, rfl, rfl, by decide +kernel, rfl, by decide +kernel, by decide +kernel⟩
abbrev sSmall : Stmt := topS 21
theorem scSmall : FnScope ["deck"] ["deck"] (defScope sSmall) := ⟨rfl, rfl, rfl, by decide +kernel, rfl, by decide +kernel, by decide +kernel⟩
theorem ok_total {f : Addr} {fd : FuncData} {k : Nat} {z : Addr} (F : Fun K "total" "total" sTotal f fd) (c_plus : Cal P w K mg base k "plus" ["a", "b"] (spOpT K (fun r s => r + s) fun _ _ => True)) (m_ZERO : mg "ZERO" = some (.ref z)) (hz : ∀ H, SqT K H z (ndl 0)) : FnOk P w K mg base CX0 (k + 1) f fd ["values"] (spTotal K) := by
  refine F.ok scTotal (fun vs H Q E h => ?_) (fun cdv A outer s H vs Q E hr h => ?_)
  · obtain ⟨l, xs, rs, rfl, _⟩ := h
    rfl
  · obtain ⟨l, xs, rs, rfl, hl, hall, hsz, hn, out⟩ := h
    have r_ZERO : RelV (.ref z) (Value.ref z) := rfl
    have hlen := hall.len
    refine ⟨_, (pss_cons (ps_set (i := 1) scTotal.nd rfl (Or.inl rfl) (pe_glob (by rfl) m_ZERO r_ZERO))
      (pss_cons (ps_for PassesOwn.never rfl (pi_list (pv 0)) (pg_name (i := 2) scTotal.nd rfl (Or.inl rfl)) (pss_one (ps_set (i := 1) scTotal.nd rfl (Or.inl rfl) (pe_cal c_plus hr (by rfl) (pa_cons (pv 1) (pa_cons (pv 2) pa_nil))))))
      (pss_one (ps_ret (pv 1))))), ?_⟩
    refine ⟨_, rfl, l, rfl, ⟨xs, hl⟩, for_list (K := K) (a := l) (xs := xs) (fun i σ H' => ∃ (p : Addr) (y : Option V), σ = [some (.ref l), some (.ref p), y] ∧ Same H H' ∧ SqT K H' p (ndl (psum rs i)) ∧ i ≤ rs.length) ⟨z, none, rfl, Same.refl H, hz H, Nat.zero_le _⟩ (fun i σ H' _ ⟨_, _, _, e, _⟩ => e.seq hl) ?_ ?_⟩
    · rintro i x σ H1 hx ⟨p, y, rfl, s1, hp, hi⟩
      obtain ⟨pr, r, rfl, hr1, hpr⟩ := RAll.get hall hx
      have hi2 : i < rs.length := (List.getElem?_eq_some_iff.mp hr1).1
      refine ⟨_, rfl, _, rfl, p, pr, psum rs i, r, rfl, hp, sqT_same s1 hpr, (psum_sz hsz i hi).mono (by omega), (hsz r (List.mem_of_getElem? hr1)).mono (by decide), trivial, fun t H2 s2 _ ht => ?_⟩
      refine ⟨t, some (.ref pr), rfl, s1.trans s2, ?_, hi2⟩
      rw [psum_succ hr1]
      exact SqT.of ht
    · rintro σ H1 ⟨p, y, rfl, s1, hp, hi⟩
      rw [hlen, psum_all] at hp
      exact ⟨_, rfl, out p H1 s1 hp⟩
theorem ok_ltotal {f : Addr} {fd : FuncData} {k : Nat} (F : Fun K "_law_total" "_law_total" sLTotal f fd) (c_law_add : Cal P w K mg base k "_law_add" ["a", "b"] (spOpT K (fun r s => r + s) fun _ _ => True)) : FnOk P w K mg base CX0 (k + 1) f fd ["values"] (spTotal K) := by
  refine F.ok scLTotal (fun vs H Q E h => ?_) (fun cdv A outer s H vs Q E hr h => ?_)
  · obtain ⟨l, xs, rs, rfl, _⟩ := h
    rfl
  · obtain ⟨l, xs, rs, rfl, hl, hall, hsz, hn, out⟩ := h
    have hlen := hall.len
    refine ⟨_, (pss_cons (ps_set (i := 1) scLTotal.nd rfl (Or.inl rfl) (pe_tup (pa_cons pe_int (pa_cons pe_int pa_nil))))
      (pss_cons (ps_for PassesOwn.never rfl (pi_list (pv 0)) (pg_name (i := 2) scLTotal.nd rfl (Or.inl rfl)) (pss_one (ps_set (i := 1) scLTotal.nd rfl (Or.inl rfl) (pe_cal c_law_add hr (by rfl) (pa_cons (pv 1) (pa_cons (pv 2) pa_nil))))))
      (pss_one (ps_ret (pv 1))))), ?_⟩
    refine ⟨by show 2 ≤ sizeLine; decide, fun z nz => ?_⟩
    have sz := Same.new (o := .tup (ndl 0)) nz
    refine ⟨_, rfl, l, rfl, ⟨xs, sz.seq hl⟩, for_list (K := K) (a := l) (xs := xs) (fun i σ H' => ∃ (p : Addr) (y : Option V), σ = [some (.ref l), some (.ref p), y] ∧ Same H H' ∧ SqT K H' p (ndl (psum rs i)) ∧ i ≤ rs.length) ⟨z, none, rfl, sz, SqT.of upd_same, Nat.zero_le _⟩ (fun i σ H' _ ⟨_, _, _, e, _⟩ => e.seq hl) ?_ ?_⟩
    · rintro i x σ H1 hx ⟨p, y, rfl, s1, hp, hi⟩
      obtain ⟨pr, r, rfl, hr1, hpr⟩ := RAll.get hall hx
      have hi2 : i < rs.length := (List.getElem?_eq_some_iff.mp hr1).1
      refine ⟨_, rfl, _, rfl, p, pr, psum rs i, r, rfl, hp, sqT_same s1 hpr, (psum_sz hsz i hi).mono (by omega), (hsz r (List.mem_of_getElem? hr1)).mono (by decide), trivial, fun t H2 s2 _ ht => ?_⟩
      refine ⟨t, some (.ref pr), rfl, s1.trans s2, ?_, hi2⟩
      rw [psum_succ hr1]
      exact SqT.of ht
    · rintro σ H1 ⟨p, y, rfl, s1, hp, hi⟩
      rw [hlen, psum_all] at hp
      exact ⟨_, rfl, out p H1 s1 hp⟩
theorem ok_products {f : Addr} {fd : FuncData} {k : Nat} (F : Fun K "products" "products" sProducts f fd) (c_total : Cal P w K mg base k "total" ["values"] (spTotal K)) (c_times : Cal P w K mg base k "times" ["a", "b"] (spOpT K (fun r s => r * s) fun _ _ => True)) (z_zip : mg "zip" = none) : FnOk P w K mg base CX0 (k + 1) f fd ["first", "second"] (spDot K) := by
  refine F.ok scProducts (fun vs H Q E h => ?_) (fun cdv A outer s H vs Q E hr h => ?_)
  · obtain ⟨l, m, xs, ys, rs, ss, rfl, _⟩ := h
    rfl
  · obtain ⟨l, m, xs, ys, rs, ss, rfl, hl, hx, hm, hy, zr, zs, hn, hle, out⟩ := h
    have hlx := hx.len
    have hly := hy.len
    have zl := zw_len hle
    refine ⟨_, (pss_one (ps_ret (pe_cal c_total hr (by rfl) (pa_cons (pe_lc (own := [("a", 2), ("b", 3)]) (g := gTup K 2 (gCons (gName 2) (gCons (gName 3) gNil))) (tt := tYes) rfl scProducts.nd (pi_zip (by rfl) z_zip (pa_cons (pv 0) (pa_cons (pv 1) pa_nil))) (blkOk_by (own := [("a", 2), ("b", 3)]) (N := ["first", "second", "a", "b"]) (sc := defScope sProducts) (by decide +kernel)) (fun _ _ _ _ _ => (pg_tup rfl (pgs_cons (pg_name (i := 2) scProducts.nd rfl (Or.inl rfl)) (pgs_cons (pg_name (i := 3) scProducts.nd rfl (Or.inl rfl)) pgs_nil)))) (fun _ _ _ _ _ => pts_nil) (fun _ _ _ _ _ => (pe_cal c_times hr (by rfl) (pa_cons (pv 2) (pa_cons (pv 3) pa_nil))))) pa_nil)))), ?_⟩
    refine ⟨.ref l, rfl, .ref m, rfl, l, m, xs, ys, rfl, hl, hm, fun D hD => ⟨fun i n H' => n = rs.length - i ∧ i ≤ rs.length ∧ ∃ acc, H' D = some (.lst acc) ∧ Same H H' ∧ RAll K H' acc ((List.zipWith (fun x y => x * y) rs ss).take i), ⟨rs.length, by omega, Nat.zero_le _, [], upd_same, Same.new hD, trivial⟩, ?_⟩⟩
    rintro i n H1 ⟨rfl, hi, acc, hacc, s1, hall⟩
    by_cases hlt : i < rs.length
    · obtain ⟨px, r, gx, gr, qx⟩ := hx.nth hlt
      obtain ⟨py, s', gy, gs, qy⟩ := hy.nth (show i < ss.length by omega)
      have hal := hall.len
      rw [List.length_take, zl] at hal
      refine .inr ⟨⟨xs, ys, _, _, s1.seq hl, s1.seq hm, gx, gy⟩, fun H' => i + 1 ≤ rs.length ∧ ∃ acc, H' D = some (.lst acc) ∧ Same H H' ∧ RAll K H' acc ((List.zipWith (fun x y => x * y) rs ss).take (i + 1)), fun H' hN => ⟨rs.length - (i + 1), by omega, rfl, hN⟩, fun v H' hv => ?_⟩
      obtain ⟨T, x1, y1, rfl, nT, rfl, f1, f2⟩ := hv
      have e1 : x1 = .ref px := Option.some.inj ((f1 _ (s1.seq hl)).symm.trans gx)
      have e2 : y1 = .ref py := Option.some.inj ((f2 _ (s1.seq hm)).symm.trans gy)
      subst e1
      subst e2
      have sT := Same.new (o := .tup [.ref px, .ref py]) nT
      refine ⟨T, [.ref px, .ref py], rfl, SqT.of upd_same, rfl, _, [.ref py], rfl, _, [], rfl, rfl, rfl, ?_⟩
      refine ⟨_, rfl, _, rfl, px, py, r, s', rfl, sqT_same (s1.trans sT) qx, sqT_same (s1.trans sT) qy, (zr r (List.mem_of_getElem? gr)).mono (by decide), (zs s' (List.mem_of_getElem? gs)).mono (by decide), trivial, fun t H4 s4 _ ht => ?_⟩
      have hD4 : H4 D = some (.lst acc) := s4 _ _ (sT _ _ hacc)
      refine ⟨acc, hD4, len_ok (by omega), hlt, acc ++ [.ref t], upd_same, same_upd ((s1.trans sT).trans s4) hD, ?_⟩
      rw [take_snoc (zw_get gr gs)]
      exact RAll.snoc (sqT_upd hD4 (SqT.of ht)) ((hall.same (sT.trans s4)).imp fun _ _ q => sqT_upd hD4 q)
    · have hie : i = rs.length := by omega
      refine .inl ⟨⟨xs, ys, s1.seq hl, s1.seq hm, .inl (by omega)⟩, ?_⟩
      rw [List.take_of_length_le (by omega)] at hall
      exact ⟨D, acc, _, rfl, SqL.of hacc, hall, zw_sz zr zs, by omega, fun p H2 s2 hp => out p H2 (s1.trans s2) hp⟩
theorem ok_ldot {f : Addr} {fd : FuncData} {k : Nat} (F : Fun K "_law_dot" "_law_dot" sLDot f fd) (c_law_total : Cal P w K mg base k "_law_total" ["values"] (spTotal K)) (c_law_times : Cal P w K mg base k "_law_times" ["a", "b"] (spOpT K (fun r s => r * s) fun _ _ => True)) (z_range : mg "range" = none) (z_min : mg "min" = none) (z_len : mg "len" = none) : FnOk P w K mg base CX0 (k + 1) f fd ["first", "second"] (spDot K) := by
  refine F.ok scLDot (fun vs H Q E h => ?_) (fun cdv A outer s H vs Q E hr h => ?_)
  · obtain ⟨l, m, xs, ys, rs, ss, rfl, _⟩ := h
    rfl
  · obtain ⟨l, m, xs, ys, rs, ss, rfl, hl, hx, hm, hy, zr, zs, hn, hle, out⟩ := h
    have hlx := hx.len
    have hly := hy.len
    have zl := zw_len hle
    refine ⟨_, (pss_one (ps_ret (pe_cal c_law_total hr (by rfl) (pa_cons (pe_lc (own := [("k", 2)]) (g := gName 2) (tt := tYes) rfl scLDot.nd (pi_range1 (by rfl) z_range (pa_cons (pe_callB (call_min2 rfl) (by rfl) z_min (by decide +kernel) (pa_cons (pe_callB call_len_seq (by rfl) z_len PySem.boot_len (pa_cons (pv 0) pa_nil)) (pa_cons (pe_callB call_len_seq (by rfl) z_len PySem.boot_len (pa_cons (pv 1) pa_nil)) pa_nil))) pa_nil)) (blkOk_by (own := [("k", 2)]) (N := ["first", "second", "k"]) (sc := defScope sLDot) (by decide +kernel)) (fun _ _ _ _ _ => (pg_name (i := 2) scLDot.nd rfl (Or.inl rfl))) (fun _ _ _ _ _ => pts_nil) (fun _ _ _ _ _ => (pe_cal c_law_times hr (by rfl) (pa_cons (pe_ix (ix_lstK (K := K) rfl) (pv 0) (pv 2) (fun _ _ => rfl)) (pa_cons (pe_ix (ix_lstK (K := K) rfl) (pv 1) (pv 2) (fun _ _ => rfl)) pa_nil))))) pa_nil)))), ?_⟩
    refine ⟨_, rfl, _, _, rfl, .inl hl, _, rfl, _, _, rfl, .inl hm, _, _, rfl, rs.length, ?_, by omega, by omega, ?_⟩
    · rw [hlx, hly, hle, if_neg (by omega)]
    refine fun D hD => lc_range (lo := 0) (n := rs.length) (fun i H' => ∃ acc, H' D = some (.lst acc) ∧ Same H H' ∧ RAll K H' acc ((List.zipWith (fun x y => x * y) rs ss).take i)) ⟨[], upd_same, Same.new hD, trivial⟩ ?_ ?_
    · rintro i H1 hlt ⟨acc, hacc, s1, hall⟩
      obtain ⟨px, r, gx, gr, qx⟩ := hx.nth hlt
      obtain ⟨py, s', gy, gs, qy⟩ := hy.nth (show i < ss.length by omega)
      have hal := hall.len
      rw [List.length_take, zl] at hal
      refine ⟨rfl, ?_⟩
      refine ⟨_, rfl, _, rfl, _, _, _, _, rfl, rfl, s1.seq hl, by rw [Int.zero_add]; exact atI_nat gx, ?_⟩
      refine ⟨_, rfl, _, rfl, _, _, _, _, rfl, rfl, s1.seq hm, by rw [Int.zero_add]; exact atI_nat gy, ?_⟩
      refine ⟨px, py, r, s', rfl, sqT_same s1 qx, sqT_same s1 qy, (zr r (List.mem_of_getElem? gr)).mono (by decide), (zs s' (List.mem_of_getElem? gs)).mono (by decide), trivial, fun t H4 s4 _ ht => ?_⟩
      have hD4 : H4 D = some (.lst acc) := s4 _ _ hacc
      refine ⟨acc, hD4, len_ok (by omega), acc ++ [.ref t], upd_same, same_upd (s1.trans s4) hD, ?_⟩
      rw [take_snoc (zw_get gr gs)]
      exact RAll.snoc (sqT_upd hD4 (SqT.of ht)) ((hall.same s4).imp fun _ _ q => sqT_upd hD4 q)
    · rintro H1 ⟨acc, hacc, s1, hall⟩
      rw [List.take_of_length_le (by omega)] at hall
      exact ⟨D, acc, _, rfl, SqL.of hacc, hall, zw_sz zr zs, by omega, fun p H2 s2 hp => out p H2 (s1.trans s2) hp⟩
theorem ok_small {f : Addr} {fd : FuncData} {k : Nat} (F : Fun K "_law_small" "_law_small" sSmall f fd) (c_law_draw : Cal P w K mg base k "_law_draw" ["deck", "most"] (spDrawA K)) (c_law_ratio : Cal P w K mg base k "_law_ratio" ["p", "q"] spRatio) : FnOk P w K mg base CX0 (k + 1) f fd ["deck"] (spSmallA K) := by
  refine F.ok scSmall (fun vs H Q E h => ?_) (fun cdv A outer s H vs Q E hr h => ?_)
  · obtain ⟨d, l, ns, rfl, _⟩ := h
    rfl
  · obtain ⟨d, l, ns, rfl, D, out⟩ := h
    refine ⟨_, (pss_cons (ps_if (pt_cmpR op_gt (pe_cal c_law_draw hr (by rfl) (pa_cons (pv 0) (pa_cons pe_int pa_nil))) pe_int (nomark _)) (pss_one (ps_ret (pe_tup (pa_cons (pe_op op_sub (pe_cal c_law_draw hr (by rfl) (pa_cons (pv 0) (pa_cons pe_int pa_nil))) pe_int) (pa_cons pe_int pa_nil))))) pss_nil)
      (pss_one (ps_ret (pe_cal c_law_ratio hr (by rfl) (pa_cons (pe_op op_sub (pe_cal c_law_draw hr (by rfl) (pa_cons (pv 0) (pa_cons pe_int pa_nil))) pe_int) (pa_cons (pe_op op_add pe_int (pe_cal c_law_draw hr (by rfl) (pa_cons (pv 0) (pa_cons pe_int pa_nil)))) pa_nil)))))), ?_⟩
    refine ⟨_, rfl, d, 4, l, ns, rfl, by decide, by decide, D, fun v H1 v0 v8 b1 D1 => ?_⟩
    repeat walk_at "rd"
    refine ite2 (fun h1 => ?_) (fun h1 => ?_)
    · refine ⟨_, rfl, d, 6, l, ns, rfl, by decide, by decide, D1, fun v2 H2 v20 v27 b2 D2 => ?_⟩
      repeat walk_at "rd"
      refine ⟨by show 2 ≤ sizeLine; decide, fun t ht => ?_⟩
      exact out t ((v2 - 2 : Int) : Rat) _ ((b1.trans b2).trans (Same.but (Same.new ht))) (D2.same (Same.new ht)) (Sz.int (by omega) (by decide)) upd_same
    · refine ⟨_, rfl, d, 9, l, ns, rfl, by decide, by decide, D1, fun v2 H2 v20 v27 b2 D2 => ?_⟩
      repeat walk_at "rd"
      refine ⟨d, 4, l, ns, rfl, by decide, by decide, D2, fun v3 H3 v30 v37 b3 D3 => ?_⟩
      repeat walk_at "rd"
      have e1 : (v2 - 4).natAbs < 2 ^ 4 := by omega
      have e2 : (1 + v3).natAbs < 2 ^ 4 := by omega
      refine ⟨v2 - 4, 1 + v3, rfl, by omega, Nat.lt_trans e1 (by decide +kernel), Nat.lt_trans e2 (by decide +kernel), fun t H4 s4 n4 t4 => ?_⟩
      exact out t _ _ (((b1.trans b2).trans b3).trans (Same.but s4)) (D3.same s4) (sz_div (by omega) e1 e2) t4
end
end Cs
set_option maxHeartbeats 4000000
namespace Cs
open PySem PySem.Spec PyProof.Rows L2
local macro_rules | `(tactic| walk_at "rd") => `(tactic| (first
  | (refine ⟨_, rfl, ?_⟩)
  | (refine ⟨_, _, rfl, rfl, ?_⟩)
  | (refine .inl ⟨_, rfl, ?_⟩)
  | (refine .inr ⟨_, rfl, ?_⟩)
  | (refine ⟨_, _, _, _, rfl, rfl, SqL.of upd_same, rfl, ?_⟩)
  | (refine ⟨_, _, _, _, rfl, rfl, upd_same, rfl, ?_⟩)
  | (refine ⟨_, ?xs, _, ?v, rfl, rfl, ?h, ?x, ?_⟩; (case h => first | exact SqL.of (by assumption) | exact SqT.of (by assumption) | assumption); (case x => first | rfl | exact atI_nat (j := 0) rfl | exact atI_nat (j := 1) rfl))))
local macro_rules | `(tactic| walk_at "isi") => `(tactic| (first
  | (refine ⟨_, _, _, _, _, rfl, .ty _, .base (.int _), kit_ty kit_it, ?_⟩)
  | (refine ⟨_, _, _, _, _, rfl, .ty _, .base (.int _), kit_ty kit_ib, ?_⟩)
  | (refine ⟨_, _, _, _, _, rfl, .ty _, .base (.int _), kit_ty kit_ii, ?_⟩)
  | (refine ⟨_, _, _, _, _, rfl, .ty _, .base (.bl _), kit_ty kit_bt, ?_⟩)
  | (refine ⟨_, _, _, _, _, rfl, .ty _, .base (.bl _), kit_ty kit_bb, ?_⟩)
  | (refine ⟨_, _, _, _, _, rfl, .ty _, .base (.bl _), kit_ty kit_bi, ?_⟩)))
section
variable {P : Program} {w : World} {K : PySem.W.Frag} {mg : Str → Option Value} {base : Heap}
theorem But_new {d D : Addr} {H : Hp} {o : HO} (h : H D = none) : But d H (upd H D o) := Same.but (Same.new h)
abbrev sLaw : Stmt := topS 22
theorem scLaw : FnScope ["script", "deck", "many", "first", "second", "kept", "k"] ["script"] (defScope sLaw) := ⟨rfl, rfl, rfl, by decide +kernel, rfl, by decide +kernel, by decide +kernel⟩
theorem ok_law {f : Addr} {fd : FuncData} {k : Nat} (F : Fun K "law" "law" sLaw f fd) (c_law_deck : Cal P w K mg base k "_law_deck" ["script"] (spDeckA K)) (c_law_draw : Cal P w K mg base k "_law_draw" ["deck", "most"] (spDrawA K)) (c_law_small : Cal P w K mg base k "_law_small" ["deck"] (spSmallA K)) (c_law_same : Cal P w K mg base k "_law_same" ["actual", "due"] (spSameT K)) (c_total : Cal P w K mg base k "total" ["values"] (spTotal K)) (c_law_total : Cal P w K mg base k "_law_total" ["values"] (spTotal K)) (c_products : Cal P w K mg base k "products" ["first", "second"] (spDot K)) (c_law_dot : Cal P w K mg base k "_law_dot" ["first", "second"] (spDot K)) (z_range : mg "range" = none) (z_list : mg "list" = none) : FnOk P w K mg base CX0 (k + 1) f fd ["script"] (spLaw K) := by
  refine F.ok scLaw (fun vs H Q E h => ?_) (fun cdv A outer s H vs Q E hr h => ?_)
  · obtain ⟨d, _, rfl, _⟩ := h
    rfl
  · obtain ⟨a, ns, rfl, hS, hlen, q⟩ := h
    refine ⟨_, (pss_cons (ps_set (i := 1) scLaw.nd rfl (Or.inr rfl) (pe_cal c_law_deck hr (by rfl) (pa_cons (pv 0) pa_nil)))
      (pss_cons (ps_set (i := 2) scLaw.nd rfl (Or.inl rfl) (pe_cal c_law_draw hr (by rfl) (pa_cons (pv 1) (pa_cons pe_int pa_nil))))
      (pss_cons (ps_if (pt_cmpR op_eq (pe_cal c_law_draw hr (by rfl) (pa_cons (pv 1) (pa_cons pe_int pa_nil))) pe_int (nomark _)) (pss_one (ps_set (i := 2) scLaw.nd rfl (Or.inl rfl) pe_int)) pss_nil)
      (pss_cons (ps_setLc (i := 3) (own := [("k", 6)]) (g := gName 6) (tt := tYes) rfl scLaw.nd rfl rfl (sw_true rfl rfl rfl (by decide +kernel)) (pi_range1 (by rfl) z_range (pa_cons (pv 2) pa_nil)) (blkOk_by (own := [("k", 6)]) (N := ["script", "deck", "many", "first", "second", "kept", "k"]) (sc := defScope sLaw) (by decide +kernel)) (fun _ _ _ _ _ => (pg_name (i := 6) scLaw.nd rfl (Or.inl rfl))) (fun _ _ _ _ _ => pts_nil) (fun _ _ _ _ _ => (pe_cal c_law_small hr (by rfl) (pa_cons (pv 1) pa_nil))))
      (pss_cons (ps_setLc (i := 4) (own := [("k", 6)]) (g := gName 6) (tt := tYes) rfl scLaw.nd rfl rfl (sw_true rfl rfl rfl (by decide +kernel)) (pi_range1 (by rfl) z_range (pa_cons (pv 2) pa_nil)) (blkOk_by (own := [("k", 6)]) (N := ["script", "deck", "many", "first", "second", "kept", "k"]) (sc := defScope sLaw) (by decide +kernel)) (fun _ _ _ _ _ => (pg_name (i := 6) scLaw.nd rfl (Or.inl rfl))) (fun _ _ _ _ _ => pts_nil) (fun _ _ _ _ _ => (pe_cal c_law_small hr (by rfl) (pa_cons (pv 1) pa_nil))))
      (pss_cons (ps_set (i := 5) scLaw.nd rfl (Or.inl rfl) (pe_lst (pa_cons (pe_callTy call_list_of (by rfl) z_list (by decide +kernel) (pa_cons (pv 3) pa_nil)) (pa_cons (pe_callTy call_list_of (by rfl) z_list (by decide +kernel) (pa_cons (pv 4) pa_nil)) pa_nil))))
      (pss_cons (ps_if (PW.pt (pw_or (pt_not (pt_val (pe_cal c_law_same hr (by rfl) (pa_cons (pe_cal c_total hr (by rfl) (pa_cons (pv 3) pa_nil)) (pa_cons (pe_cal c_law_total hr (by rfl) (pa_cons (pv 3) pa_nil)) pa_nil))))) (pw_or1 (pt_not (pt_val (pe_cal c_law_same hr (by rfl) (pa_cons (pe_cal c_products hr (by rfl) (pa_cons (pv 3) (pa_cons (pv 4) pa_nil))) (pa_cons (pe_cal c_law_dot hr (by rfl) (pa_cons (pv 3) (pa_cons (pv 4) pa_nil))) pa_nil)))))))) (pss_one (ps_ret pe_bl)) pss_nil)
      (pss_cons (ps_if (PW.pt (pw_or (pt_not (pt_val (pe_cal c_law_same hr (by rfl) (pa_cons (pe_cal c_products hr (by rfl) (pa_cons (pv 4) (pa_cons (pv 3) pa_nil))) (pa_cons (pe_cal c_law_dot hr (by rfl) (pa_cons (pv 3) (pa_cons (pv 4) pa_nil))) pa_nil))))) (pw_or1 (pt_not (pt_val (pe_cal c_law_same hr (by rfl) (pa_cons (pe_cal c_total hr (by rfl) (pa_cons (pe_lst pa_nil) pa_nil)) (pa_cons (pe_tup (pa_cons pe_int (pa_cons pe_int pa_nil))) pa_nil)))))))) (pss_one (ps_ret pe_bl)) pss_nil)
      (pss_one (ps_ret (pe_and (pe_cmpR (op_eqD hr.units) (pv 5) (pe_lst (pa_cons (pv 3) (pa_cons (pv 4) pa_nil))) (nomark _)) (pe_one (pe_cal c_law_same hr (by rfl) (pa_cons (pe_cal c_products hr (by rfl) (pa_cons (pe_lst pa_nil) (pa_cons (pe_lst pa_nil) pa_nil))) (pa_cons (pe_tup (pa_cons pe_int (pa_cons pe_int pa_nil))) pa_nil))))))))))))))), ?_⟩
    refine ⟨_, rfl, a, ns, rfl, hS, fun d l H0 s0 n0 D0 => ?_⟩
    obtain ⟨ns', hns⟩ : ∃ ns' : List Int, ns' = ns := ⟨ns, rfl⟩
    rw [← hns] at D0
    refine ⟨_, rfl, d, 8, l, ns', rfl, by decide, by decide, D0, fun v H1 v0 v8 b1 D1 => ?_⟩
    refine ⟨_, rfl, d, 8, l, ns', rfl, by decide, by decide, D1, fun v2 H2 v20 v28 b2 D2 => ?_⟩
    refine ⟨rfl, _, rfl, ite2 (fun h1 => ?_) (fun h1 => ?_)⟩
    · refine ⟨_, rfl, (50 : Int), rfl, by omega, by omega, fun l1 nl1 => lc_range (lo := 0) (n := ((50 : Int)).toNat) (fun i H' => ∃ acc rs, H' l1 = some (.lst acc) ∧ RAll K H' acc rs ∧ rs.length = i ∧ (∀ r ∈ rs, Sz 4 r) ∧ But d H2 H' ∧ DeckA K H' d l ns') ⟨[], [], upd_same, trivial, rfl, (fun _ h => nomatch h), But_new nl1, D2.fill D2 But.refl nl1⟩ ?_ ?_⟩
      · rintro i G1 hi ⟨acc, rs, ga, gr, gl, gz, gb, gd⟩
        have hal := gr.len
        refine ⟨rfl, ?_⟩
        refine ⟨_, rfl, d, l, ns', rfl, gd, fun t r G2 b2 d2 z2 ht => ?_⟩
        have neL : l1 ≠ d := by
          obtain ⟨ys, e⟩ := D2.lst
          exact (ne_of_none e nl1).symm
        have ga2 := b2 _ _ neL ga
        refine ⟨acc, ga2, len_ok (by omega), acc ++ [.ref t], rs ++ [r], upd_same, ?_, by rw [List.length_append, gl]; rfl, ?_, but_upd (gb.trans b2) nl1, D2.fill d2 (gb.trans b2) nl1⟩
        · refine RAll.snoc (sqT_upd ga2 (SqT.of ht)) (gr.imp fun _ _ q => sqT_upd ga2 ?_)
          obtain ⟨ys, e⟩ := gd.lst
          exact sqT_butA b2 e q
        · intro r' hr'
          rcases List.mem_append.mp hr' with z | z
          · exact gz r' z
          · rw [List.mem_singleton.mp z]
            exact z2
      rintro H3 ⟨xs1, rs1, q1, a1, m1, z1, b3, D3⟩
      refine ⟨_, rfl, (50 : Int), rfl, by omega, by omega, fun l2 nl2 => lc_range (lo := 0) (n := ((50 : Int)).toNat) (fun i H' => ∃ acc rs, H' l2 = some (.lst acc) ∧ RAll K H' acc rs ∧ rs.length = i ∧ (∀ r ∈ rs, Sz 4 r) ∧ But d H3 H' ∧ DeckA K H' d l ns') ⟨[], [], upd_same, trivial, rfl, (fun _ h => nomatch h), But_new nl2, D3.fill D3 But.refl nl2⟩ ?_ ?_⟩
      · rintro i G1 hi ⟨acc, rs, ga, gr, gl, gz, gb, gd⟩
        have hal := gr.len
        refine ⟨rfl, ?_⟩
        refine ⟨_, rfl, d, l, ns', rfl, gd, fun t r G2 b2 d2 z2 ht => ?_⟩
        have neL : l2 ≠ d := by
          obtain ⟨ys, e⟩ := D3.lst
          exact (ne_of_none e nl2).symm
        have ga2 := b2 _ _ neL ga
        refine ⟨acc, ga2, len_ok (by omega), acc ++ [.ref t], rs ++ [r], upd_same, ?_, by rw [List.length_append, gl]; rfl, ?_, but_upd (gb.trans b2) nl2, D3.fill d2 (gb.trans b2) nl2⟩
        · refine RAll.snoc (sqT_upd ga2 (SqT.of ht)) (gr.imp fun _ _ q => sqT_upd ga2 ?_)
          obtain ⟨ys, e⟩ := gd.lst
          exact sqT_butA b2 e q
        · intro r' hr'
          rcases List.mem_append.mp hr' with z | z
          · exact gz r' z
          · rw [List.mem_singleton.mp z]
            exact z2
      rintro H4 ⟨xs2, rs2, q2, a2, m2, z2, b4, D4⟩
      have ne1 : l1 ≠ d := by
        obtain ⟨ys, e⟩ := D2.lst
        exact (ne_of_none e nl1).symm
      have p1 : H4 l1 = some (.lst xs1) := b4 _ _ ne1 q1
      have a1' : RAll K H4 xs1 rs1 := a1.imp fun _ _ h => by
        obtain ⟨ys, e⟩ := D3.lst
        exact sqT_butA b4 e h
      have e1 : rs1.length ≤ 60 := by omega
      have e2 : rs1.length = rs2.length := by omega
      have w1 : ∀ r ∈ rs1, Sz 8 r := fun r h => (z1 r h).mono (by decide)
      refine ⟨_, rfl, _, _, rfl, .inl (SqL.of p1), fun k1 n1 => ?_⟩
      have s1 := Same.new (o := .lst xs1) n1
      refine ⟨_, rfl, _, _, rfl, .inl (SqL.of (s1 _ _ q2)), fun k2 n2 => ?_⟩
      have s2 := Same.new (o := .lst xs2) n2
      refine ⟨by show 2 ≤ sizeLine; decide, fun k0 n0 => ?_⟩
      have s0 := Same.new (o := .lst [.ref k1, .ref k2]) n0
      have S := (s1.trans s2).trans s0
      generalize hH5 : upd (upd (upd H4 k1 (.lst xs1)) k2 (.lst xs2)) k0 (.lst [.ref k1, .ref k2]) = H5 at *
      have r1 : H5 l1 = some (.lst xs1) := S _ _ p1
      have r2 : H5 l2 = some (.lst xs2) := S _ _ q2
      have A1 : RAll K H5 xs1 rs1 := a1'.same S
      have A2 : RAll K H5 xs2 rs2 := a2.same S
      have v1 : ∀ {t : L2.St}, t[3]? = some (some (.ref l1)) → ELT K (tVar 3) t H5 rs1 := fun h => elt_var h (SqL.of r1) A1
      have v2 : ∀ {t : L2.St}, t[4]? = some (some (.ref l2)) → ELT K (tVar 4) t H5 rs2 := fun h => elt_var h (SqL.of r2) A2
      refine st_no (et_or (et_sameT (eqt_total (v1 rfl) w1 (by omega)) (eqt_total (v1 rfl) w1 (by omega))) (et_sameT (eqt_dot (v1 rfl) (v2 rfl) z1 z2 (by omega) e2) (eqt_dot (v1 rfl) (v2 rfl) z1 z2 (by omega) e2))) (Same.refl H5) fun H6 e6 => ?_
      refine st_no (et_or (et_sameT (eqt_is (eqt_dot (v2 rfl) (v1 rfl) z2 z1 (by omega) e2.symm) (dot_comm rs1 rs2)) (eqt_dot (v1 rfl) (v2 rfl) z1 z2 (by omega) e2)) (et_sameT (eqt_total (rs := []) elt_nil (fun _ h => nomatch h) (by decide)) (eqt_pair rfl rfl))) e6 fun H7 e7 => ?_
      refine ⟨_, rfl, _, rfl, _, rfl, by show 2 ≤ sizeLine; decide, fun k3 n3 => ?_⟩
      have s3 := Same.new (o := .lst [.ref l1, .ref l2]) n3
      have T := e7.trans s3
      have t0 : H5 k0 = some (.lst [.ref k1, .ref k2]) := by rw [← hH5]; exact upd_same
      have t1 : H5 k1 = some (.lst xs1) := s0 _ _ (s2 _ _ upd_same)
      have t2 : H5 k2 = some (.lst xs2) := s0 _ _ upd_same
      refine ⟨.list [dL rs1, dL rs2], .list [dL rs1, dL rs2], .lst (SqL.of (T _ _ t0)) (.cons (.lst (SqL.of (T _ _ t1)) (dp_all (A1.same T))) (.cons (.lst (SqL.of (T _ _ t2)) (dp_all (A2.same T))) .nil)), .lst (SqL.of upd_same) (.cons (.lst (SqL.of (T _ _ r1)) (dp_all (A1.same T))) (.cons (.lst (SqL.of (T _ _ r2)) (dp_all (A2.same T))) .nil)), shaped_dLL rs1 rs2, shaped_dLL rs1 rs2, true, ?_, ?_⟩
      · rw [SeqAt.eqv_refl _ (SeqAt.canLay_of_shaped (shaped_dLL rs1 rs2))]
      refine (ei_sameT (K := K) (eqt_dot (K := K) (rs := []) (ss := []) elt_nil elt_nil (fun _ h => nomatch h) (fun _ h => nomatch h) (by decide) rfl) (eqt_pair rfl rfl)) _ (Same.refl _) _ fun H8 _ => q _
    · refine ⟨_, rfl, v, rfl, by omega, by omega, fun l1 nl1 => lc_range (lo := 0) (n := (v).toNat) (fun i H' => ∃ acc rs, H' l1 = some (.lst acc) ∧ RAll K H' acc rs ∧ rs.length = i ∧ (∀ r ∈ rs, Sz 4 r) ∧ But d H2 H' ∧ DeckA K H' d l ns') ⟨[], [], upd_same, trivial, rfl, (fun _ h => nomatch h), But_new nl1, D2.fill D2 But.refl nl1⟩ ?_ ?_⟩
      · rintro i G1 hi ⟨acc, rs, ga, gr, gl, gz, gb, gd⟩
        have hal := gr.len
        refine ⟨rfl, ?_⟩
        refine ⟨_, rfl, d, l, ns', rfl, gd, fun t r G2 b2 d2 z2 ht => ?_⟩
        have neL : l1 ≠ d := by
          obtain ⟨ys, e⟩ := D2.lst
          exact (ne_of_none e nl1).symm
        have ga2 := b2 _ _ neL ga
        refine ⟨acc, ga2, len_ok (by omega), acc ++ [.ref t], rs ++ [r], upd_same, ?_, by rw [List.length_append, gl]; rfl, ?_, but_upd (gb.trans b2) nl1, D2.fill d2 (gb.trans b2) nl1⟩
        · refine RAll.snoc (sqT_upd ga2 (SqT.of ht)) (gr.imp fun _ _ q => sqT_upd ga2 ?_)
          obtain ⟨ys, e⟩ := gd.lst
          exact sqT_butA b2 e q
        · intro r' hr'
          rcases List.mem_append.mp hr' with z | z
          · exact gz r' z
          · rw [List.mem_singleton.mp z]
            exact z2
      rintro H3 ⟨xs1, rs1, q1, a1, m1, z1, b3, D3⟩
      refine ⟨_, rfl, v, rfl, by omega, by omega, fun l2 nl2 => lc_range (lo := 0) (n := (v).toNat) (fun i H' => ∃ acc rs, H' l2 = some (.lst acc) ∧ RAll K H' acc rs ∧ rs.length = i ∧ (∀ r ∈ rs, Sz 4 r) ∧ But d H3 H' ∧ DeckA K H' d l ns') ⟨[], [], upd_same, trivial, rfl, (fun _ h => nomatch h), But_new nl2, D3.fill D3 But.refl nl2⟩ ?_ ?_⟩
      · rintro i G1 hi ⟨acc, rs, ga, gr, gl, gz, gb, gd⟩
        have hal := gr.len
        refine ⟨rfl, ?_⟩
        refine ⟨_, rfl, d, l, ns', rfl, gd, fun t r G2 b2 d2 z2 ht => ?_⟩
        have neL : l2 ≠ d := by
          obtain ⟨ys, e⟩ := D3.lst
          exact (ne_of_none e nl2).symm
        have ga2 := b2 _ _ neL ga
        refine ⟨acc, ga2, len_ok (by omega), acc ++ [.ref t], rs ++ [r], upd_same, ?_, by rw [List.length_append, gl]; rfl, ?_, but_upd (gb.trans b2) nl2, D3.fill d2 (gb.trans b2) nl2⟩
        · refine RAll.snoc (sqT_upd ga2 (SqT.of ht)) (gr.imp fun _ _ q => sqT_upd ga2 ?_)
          obtain ⟨ys, e⟩ := gd.lst
          exact sqT_butA b2 e q
        · intro r' hr'
          rcases List.mem_append.mp hr' with z | z
          · exact gz r' z
          · rw [List.mem_singleton.mp z]
            exact z2
      rintro H4 ⟨xs2, rs2, q2, a2, m2, z2, b4, D4⟩
      have ne1 : l1 ≠ d := by
        obtain ⟨ys, e⟩ := D2.lst
        exact (ne_of_none e nl1).symm
      have p1 : H4 l1 = some (.lst xs1) := b4 _ _ ne1 q1
      have a1' : RAll K H4 xs1 rs1 := a1.imp fun _ _ h => by
        obtain ⟨ys, e⟩ := D3.lst
        exact sqT_butA b4 e h
      have e1 : rs1.length ≤ 60 := by omega
      have e2 : rs1.length = rs2.length := by omega
      have w1 : ∀ r ∈ rs1, Sz 8 r := fun r h => (z1 r h).mono (by decide)
      refine ⟨_, rfl, _, _, rfl, .inl (SqL.of p1), fun k1 n1 => ?_⟩
      have s1 := Same.new (o := .lst xs1) n1
      refine ⟨_, rfl, _, _, rfl, .inl (SqL.of (s1 _ _ q2)), fun k2 n2 => ?_⟩
      have s2 := Same.new (o := .lst xs2) n2
      refine ⟨by show 2 ≤ sizeLine; decide, fun k0 n0 => ?_⟩
      have s0 := Same.new (o := .lst [.ref k1, .ref k2]) n0
      have S := (s1.trans s2).trans s0
      generalize hH5 : upd (upd (upd H4 k1 (.lst xs1)) k2 (.lst xs2)) k0 (.lst [.ref k1, .ref k2]) = H5 at *
      have r1 : H5 l1 = some (.lst xs1) := S _ _ p1
      have r2 : H5 l2 = some (.lst xs2) := S _ _ q2
      have A1 : RAll K H5 xs1 rs1 := a1'.same S
      have A2 : RAll K H5 xs2 rs2 := a2.same S
      have v1 : ∀ {t : L2.St}, t[3]? = some (some (.ref l1)) → ELT K (tVar 3) t H5 rs1 := fun h => elt_var h (SqL.of r1) A1
      have v2 : ∀ {t : L2.St}, t[4]? = some (some (.ref l2)) → ELT K (tVar 4) t H5 rs2 := fun h => elt_var h (SqL.of r2) A2
      refine st_no (et_or (et_sameT (eqt_total (v1 rfl) w1 (by omega)) (eqt_total (v1 rfl) w1 (by omega))) (et_sameT (eqt_dot (v1 rfl) (v2 rfl) z1 z2 (by omega) e2) (eqt_dot (v1 rfl) (v2 rfl) z1 z2 (by omega) e2))) (Same.refl H5) fun H6 e6 => ?_
      refine st_no (et_or (et_sameT (eqt_is (eqt_dot (v2 rfl) (v1 rfl) z2 z1 (by omega) e2.symm) (dot_comm rs1 rs2)) (eqt_dot (v1 rfl) (v2 rfl) z1 z2 (by omega) e2)) (et_sameT (eqt_total (rs := []) elt_nil (fun _ h => nomatch h) (by decide)) (eqt_pair rfl rfl))) e6 fun H7 e7 => ?_
      refine ⟨_, rfl, _, rfl, _, rfl, by show 2 ≤ sizeLine; decide, fun k3 n3 => ?_⟩
      have s3 := Same.new (o := .lst [.ref l1, .ref l2]) n3
      have T := e7.trans s3
      have t0 : H5 k0 = some (.lst [.ref k1, .ref k2]) := by rw [← hH5]; exact upd_same
      have t1 : H5 k1 = some (.lst xs1) := s0 _ _ (s2 _ _ upd_same)
      have t2 : H5 k2 = some (.lst xs2) := s0 _ _ upd_same
      refine ⟨.list [dL rs1, dL rs2], .list [dL rs1, dL rs2], .lst (SqL.of (T _ _ t0)) (.cons (.lst (SqL.of (T _ _ t1)) (dp_all (A1.same T))) (.cons (.lst (SqL.of (T _ _ t2)) (dp_all (A2.same T))) .nil)), .lst (SqL.of upd_same) (.cons (.lst (SqL.of (T _ _ r1)) (dp_all (A1.same T))) (.cons (.lst (SqL.of (T _ _ r2)) (dp_all (A2.same T))) .nil)), shaped_dLL rs1 rs2, shaped_dLL rs1 rs2, true, ?_, ?_⟩
      · rw [SeqAt.eqv_refl _ (SeqAt.canLay_of_shaped (shaped_dLL rs1 rs2))]
      refine (ei_sameT (K := K) (eqt_dot (K := K) (rs := []) (ss := []) elt_nil elt_nil (fun _ h => nomatch h) (fun _ h => nomatch h) (by decide) rfl) (eqt_pair rfl rfl)) _ (Same.refl _) _ fun H8 _ => q _
end
end Cs
set_option maxHeartbeats 4000000
namespace Cs
open PySem PySem.Spec PyProof.Rows L2
local macro_rules | `(tactic| walk_at "rd") => `(tactic| (first
  | (refine ⟨_, rfl, ?_⟩)
  | (refine ⟨_, _, rfl, rfl, ?_⟩)
  | (refine .inl ⟨_, rfl, ?_⟩)
  | (refine .inr ⟨_, rfl, ?_⟩)
  | (refine ⟨_, _, _, _, rfl, rfl, SqL.of upd_same, rfl, ?_⟩)
  | (refine ⟨_, _, _, _, rfl, rfl, upd_same, rfl, ?_⟩)
  | (refine ⟨_, ?xs, _, ?v, rfl, rfl, ?h, ?x, ?_⟩; (case h => first | exact SqL.of (by assumption) | exact SqT.of (by assumption) | assumption); (case x => first | rfl | exact atI_nat (j := 0) rfl | exact atI_nat (j := 1) rfl))))
local macro_rules | `(tactic| walk_at "isi") => `(tactic| (first
  | (refine ⟨_, _, _, _, _, rfl, .ty _, .base (.int _), kit_ty kit_it, ?_⟩)
  | (refine ⟨_, _, _, _, _, rfl, .ty _, .base (.int _), kit_ty kit_ib, ?_⟩)
  | (refine ⟨_, _, _, _, _, rfl, .ty _, .base (.int _), kit_ty kit_ii, ?_⟩)
  | (refine ⟨_, _, _, _, _, rfl, .ty _, .base (.bl _), kit_ty kit_bt, ?_⟩)
  | (refine ⟨_, _, _, _, _, rfl, .ty _, .base (.bl _), kit_ty kit_bb, ?_⟩)
  | (refine ⟨_, _, _, _, _, rfl, .ty _, .base (.bl _), kit_ty kit_bi, ?_⟩)))
theorem bdDeck (kV doc pm : Value) (an : Option Addr) (cdv ct : Value) (us : List Value) (hl : us.length = (["script"] : List Str).length) : bindArgs (PySem.W.fnOf "_law_deck" "_law_deck" (defArgs sDeck) (defBody sDeck) (defScope sDeck) .none kV doc pm an cdv ct) ⟨us, []⟩ = pure ((["script"] : List Str).zip us) := match us, hl with | [_], _ => rfl
theorem bdDraw (kV doc pm : Value) (an : Option Addr) (cdv ct : Value) (us : List Value) (hl : us.length = (["deck", "most"] : List Str).length) : bindArgs (PySem.W.fnOf "_law_draw" "_law_draw" (defArgs sDraw) (defBody sDraw) (defScope sDraw) .none kV doc pm an cdv ct) ⟨us, []⟩ = pure ((["deck", "most"] : List Str).zip us) := match us, hl with | [_, _], _ => rfl
theorem bdSame (kV doc pm : Value) (an : Option Addr) (cdv ct : Value) (us : List Value) (hl : us.length = (["actual", "due"] : List Str).length) : bindArgs (PySem.W.fnOf "_law_same" "_law_same" (defArgs sSame) (defBody sSame) (defScope sSame) .none kV doc pm an cdv ct) ⟨us, []⟩ = pure ((["actual", "due"] : List Str).zip us) := match us, hl with | [_, _], _ => rfl
theorem bdGcd (kV doc pm : Value) (an : Option Addr) (cdv ct : Value) (us : List Value) (hl : us.length = (["a", "b"] : List Str).length) : bindArgs (PySem.W.fnOf "_law_gcd" "_law_gcd" (defArgs sGcd) (defBody sGcd) (defScope sGcd) .none kV doc pm an cdv ct) ⟨us, []⟩ = pure ((["a", "b"] : List Str).zip us) := match us, hl with | [_, _], _ => rfl
theorem bdRatio (kV doc pm : Value) (an : Option Addr) (cdv ct : Value) (us : List Value) (hl : us.length = (["p", "q"] : List Str).length) : bindArgs (PySem.W.fnOf "_law_ratio" "_law_ratio" (defArgs sRatio) (defBody sRatio) (defScope sRatio) .none kV doc pm an cdv ct) ⟨us, []⟩ = pure ((["p", "q"] : List Str).zip us) := match us, hl with | [_, _], _ => rfl
theorem bdPlus (kV doc pm : Value) (an : Option Addr) (cdv ct : Value) (us : List Value) (hl : us.length = (["a", "b"] : List Str).length) : bindArgs (PySem.W.fnOf "plus" "plus" (defArgs sPlus) (defBody sPlus) (defScope sPlus) .none kV doc pm an cdv ct) ⟨us, []⟩ = pure ((["a", "b"] : List Str).zip us) := match us, hl with | [_, _], _ => rfl
theorem bdTimes (kV doc pm : Value) (an : Option Addr) (cdv ct : Value) (us : List Value) (hl : us.length = (["a", "b"] : List Str).length) : bindArgs (PySem.W.fnOf "times" "times" (defArgs sTimes) (defBody sTimes) (defScope sTimes) .none kV doc pm an cdv ct) ⟨us, []⟩ = pure ((["a", "b"] : List Str).zip us) := match us, hl with | [_, _], _ => rfl
theorem bdTotal (kV doc pm : Value) (an : Option Addr) (cdv ct : Value) (us : List Value) (hl : us.length = (["values"] : List Str).length) : bindArgs (PySem.W.fnOf "total" "total" (defArgs sTotal) (defBody sTotal) (defScope sTotal) .none kV doc pm an cdv ct) ⟨us, []⟩ = pure ((["values"] : List Str).zip us) := match us, hl with | [_], _ => rfl
theorem bdProducts (kV doc pm : Value) (an : Option Addr) (cdv ct : Value) (us : List Value) (hl : us.length = (["first", "second"] : List Str).length) : bindArgs (PySem.W.fnOf "products" "products" (defArgs sProducts) (defBody sProducts) (defScope sProducts) .none kV doc pm an cdv ct) ⟨us, []⟩ = pure ((["first", "second"] : List Str).zip us) := match us, hl with | [_, _], _ => rfl
theorem bdLAdd (kV doc pm : Value) (an : Option Addr) (cdv ct : Value) (us : List Value) (hl : us.length = (["a", "b"] : List Str).length) : bindArgs (PySem.W.fnOf "_law_add" "_law_add" (defArgs sLAdd) (defBody sLAdd) (defScope sLAdd) .none kV doc pm an cdv ct) ⟨us, []⟩ = pure ((["a", "b"] : List Str).zip us) := match us, hl with | [_, _], _ => rfl
theorem bdLTimes (kV doc pm : Value) (an : Option Addr) (cdv ct : Value) (us : List Value) (hl : us.length = (["a", "b"] : List Str).length) : bindArgs (PySem.W.fnOf "_law_times" "_law_times" (defArgs sLTimes) (defBody sLTimes) (defScope sLTimes) .none kV doc pm an cdv ct) ⟨us, []⟩ = pure ((["a", "b"] : List Str).zip us) := match us, hl with | [_, _], _ => rfl
theorem bdLTotal (kV doc pm : Value) (an : Option Addr) (cdv ct : Value) (us : List Value) (hl : us.length = (["values"] : List Str).length) : bindArgs (PySem.W.fnOf "_law_total" "_law_total" (defArgs sLTotal) (defBody sLTotal) (defScope sLTotal) .none kV doc pm an cdv ct) ⟨us, []⟩ = pure ((["values"] : List Str).zip us) := match us, hl with | [_], _ => rfl
theorem bdLDot (kV doc pm : Value) (an : Option Addr) (cdv ct : Value) (us : List Value) (hl : us.length = (["first", "second"] : List Str).length) : bindArgs (PySem.W.fnOf "_law_dot" "_law_dot" (defArgs sLDot) (defBody sLDot) (defScope sLDot) .none kV doc pm an cdv ct) ⟨us, []⟩ = pure ((["first", "second"] : List Str).zip us) := match us, hl with | [_, _], _ => rfl
theorem bdSmall (kV doc pm : Value) (an : Option Addr) (cdv ct : Value) (us : List Value) (hl : us.length = (["deck"] : List Str).length) : bindArgs (PySem.W.fnOf "_law_small" "_law_small" (defArgs sSmall) (defBody sSmall) (defScope sSmall) .none kV doc pm an cdv ct) ⟨us, []⟩ = pure ((["deck"] : List Str).zip us) := match us, hl with | [_], _ => rfl
theorem bdFraction (T : Addr) (kV doc pm : Value) (an : Option Addr) (cdv ct : Value) (us its : List Value) (hl : us.length = 2) (hi : its.length = ([V.int 1]).length) :
      ∃ k, bindArgs (PySem.W.fnOf "fraction" "fraction" (defArgs sFraction) (defBody sFraction) (defScope sFraction) (.ref T) kV doc pm an cdv ct) ⟨us, []⟩ = seqItems? (.ref T) >>= k ∧ k (some its.toArray) = pure ((["p", "q"] : List Str).zip (us ++ its.drop 1)) := match us, its, hl, hi with | [_, _], [_], _, _ => ⟨_, rfl, rfl⟩
theorem all_mk {l : PySem.W.OpenLaw} {w : World} {K : PySem.W.Frag} {h : Heap} {mg : Str → Option Value} {fa : Addr} (X : K.In h) (G : h.Ns mainGlobals mg) (hfa : mg "law" = some (.ref fa))
    (gDeck : FunG K mg "_law_deck" sDeck ["script"])
    (gDraw : FunG K mg "_law_draw" sDraw ["deck", "most"])
    (gSame : FunG K mg "_law_same" sSame ["actual", "due"])
    (gGcd : FunG K mg "_law_gcd" sGcd ["a", "b"])
    (gRatio : FunG K mg "_law_ratio" sRatio ["p", "q"])
    (gPlus : FunG K mg "plus" sPlus ["a", "b"])
    (gTimes : FunG K mg "times" sTimes ["a", "b"])
    (gTotal : FunG K mg "total" sTotal ["values"])
    (gProducts : FunG K mg "products" sProducts ["first", "second"])
    (gLAdd : FunG K mg "_law_add" sLAdd ["a", "b"])
    (gLTimes : FunG K mg "_law_times" sLTimes ["a", "b"])
    (gLTotal : FunG K mg "_law_total" sLTotal ["values"])
    (gLDot : FunG K mg "_law_dot" sLDot ["first", "second"])
    (gSmall : FunG K mg "_law_small" sSmall ["deck"])
    (gFraction : FunD2 K mg "fraction" sFraction ["p", "q"])
    {f2 : Addr} {od2 an2 : Option Addr} {sl2 : Array (Option Value)} {oc2 kV2 dc2 pm2 cd2 ct2 : Value}
    (a2 : PySem.W.nsIn K mainGlobals "law" = some (some (.ref f2))) (l2 : K.lookup f2 = some ⟨oc2, od2, .func (PySem.W.fnOf "law" "law" (defArgs sLaw) (defBody sLaw) (defScope sLaw) .none kV2 dc2 pm2 an2 cd2 ct2), sl2⟩) (c2 : PySem.W.codeIn K cd2 "law" = true) (k2 : PySem.W.keepIn K (.ref f2) = true)
    (y_len : PySem.W.nsIn K mainGlobals "len" = some none)
    (y_int : PySem.W.nsIn K mainGlobals "int" = some none)
    (y_abs : PySem.W.nsIn K mainGlobals "abs" = some none)
    (y_range : PySem.W.nsIn K mainGlobals "range" = some none)
    (y_isinstance : PySem.W.nsIn K mainGlobals "isinstance" = some none)
    (y_tuple : PySem.W.nsIn K mainGlobals "tuple" = some none)
    (y_bool : PySem.W.nsIn K mainGlobals "bool" = some none)
    (y_str : PySem.W.nsIn K mainGlobals "str" = some none)
    (y_list : PySem.W.nsIn K mainGlobals "list" = some none)
    (y_zip : PySem.W.nsIn K mainGlobals "zip" = some none)
    (y_min : PySem.W.nsIn K mainGlobals "min" = some none)
    {CZ : Addr} {dZ : Option Addr} {tk0 tk1 : Tok} {nZ : Nat} {slZ : Array (Option Value)}
    (y_gcd : PySem.W.nsIn K mainGlobals "gcd" = some (some (.builtin "math.gcd")))
    (yZ : PySem.W.nsIn K mainGlobals "ZERO" = some (some (.ref CZ)))
    (lZ : K.lookup CZ = some ⟨.type "tuple", dZ, .seq #[.int 0 tk0, .int 1 tk1] nZ, slZ⟩) :
    ∃ fd : FuncData, (∀ (s : Shared) (v : Value), BindsTo s fd ⟨[v], []⟩ [("script", v)]) ∧ ∀ base : Heap, K.In base → base.Ns mainGlobals mg → FnOk l.prog w K mg base CX0 6 fa fd ["script"] (spLaw K) := by
  have e := hfa.symm.trans (PySem.W.mg_of X G a2)
  cases e
  have z_len := PySem.W.mg_none_of X G y_len
  have z_int := PySem.W.mg_none_of X G y_int
  have z_abs := PySem.W.mg_none_of X G y_abs
  have z_range := PySem.W.mg_none_of X G y_range
  have z_isinstance := PySem.W.mg_none_of X G y_isinstance
  have z_tuple := PySem.W.mg_none_of X G y_tuple
  have z_bool := PySem.W.mg_none_of X G y_bool
  have z_str := PySem.W.mg_none_of X G y_str
  have z_list := PySem.W.mg_none_of X G y_list
  have z_zip := PySem.W.mg_none_of X G y_zip
  have z_min := PySem.W.mg_none_of X G y_min
  have m_gcd := PySem.W.mg_of X G y_gcd
  refine ⟨PySem.W.fnOf "law" "law" (defArgs sLaw) (defBody sLaw) (defScope sLaw) .none kV2 dc2 pm2 an2 cd2 ct2, fun s v => .of_eq rfl, fun base _ _ => ?_⟩
  have cFr : Cal l.prog w K mg base 1 "fraction" ["p", "q"] spFrac := by
    obtain ⟨f, fd, F, g, kp, b⟩ := gFraction
    exact ⟨f, fd, ok_fraction (k := 0) F m_gcd, g, kp, b⟩
  have cDeck : Cal l.prog w K mg base 1 "_law_deck" ["script"] (spDeckA K) := Cal.of gDeck fun F => ok_deck (k := 0) F z_list
  have cDraw : Cal l.prog w K mg base 1 "_law_draw" ["deck", "most"] (spDrawA K) := Cal.of gDraw fun F => ok_draw (k := 0) F z_len z_int
  have cGcd : Cal l.prog w K mg base 1 "_law_gcd" ["a", "b"] spGcd := Cal.of gGcd fun F => ok_gcd (k := 0) F z_range z_int
  have cRatio : Cal l.prog w K mg base 2 "_law_ratio" ["p", "q"] spRatio := Cal.of gRatio fun F => ok_ratio (k := 1) F cGcd z_abs
  have cSame0 : Cal l.prog w K mg base 1 "_law_same" ["actual", "due"] spSame0 := Cal.of gSame fun F => ok_same0 (k := 0) F z_isinstance z_int z_bool z_tuple z_str
  have cSame : Cal l.prog w K mg base 2 "_law_same" ["actual", "due"] (spSameT K) := Cal.of gSame fun F => ok_same (k := 1) F cSame0 z_isinstance z_int z_bool z_tuple z_str z_len z_range
  have hz : ∀ H, SqT K H CZ (ndl 0) := fun H => .inr ⟨_, #[.int 0 tk0, .int 1 tk1], nZ, lZ, rfl, rfl, by show 2 ≤ sizeLine; decide, .cons ⟨tk0, rfl⟩ (.cons ⟨tk1, rfl⟩ .nil)⟩
  have cPlus : Cal l.prog w K mg base 2 "plus" ["a", "b"] (spOpT K (fun r s => r + s) fun _ _ => True) := Cal.of gPlus fun F => ok_plus (k := 1) F cFr
  have cTimes : Cal l.prog w K mg base 2 "times" ["a", "b"] (spOpT K (fun r s => r * s) fun _ _ => True) := Cal.of gTimes fun F => ok_times (k := 1) F cFr
  have cLAdd : Cal l.prog w K mg base 3 "_law_add" ["a", "b"] (spOpT K (fun r s => r + s) fun _ _ => True) := Cal.of gLAdd fun F => ok_law_add (k := 2) F cRatio
  have cLTimes : Cal l.prog w K mg base 3 "_law_times" ["a", "b"] (spOpT K (fun r s => r * s) fun _ _ => True) := Cal.of gLTimes fun F => ok_law_times (k := 2) F cRatio
  have cTotal : Cal l.prog w K mg base 3 "total" ["values"] (spTotal K) := Cal.of gTotal fun F => ok_total (k := 2) F cPlus (PySem.W.mg_of X G yZ) hz
  have cLTotal : Cal l.prog w K mg base 4 "_law_total" ["values"] (spTotal K) := Cal.of gLTotal fun F => ok_ltotal (k := 3) F cLAdd
  have cProducts : Cal l.prog w K mg base 4 "products" ["first", "second"] (spDot K) := Cal.of gProducts fun F => ok_products (k := 3) F cTotal (cTimes.mono (by decide)) z_zip
  have cLDot : Cal l.prog w K mg base 5 "_law_dot" ["first", "second"] (spDot K) := Cal.of gLDot fun F => ok_ldot (k := 4) F cLTotal (cLTimes.mono (by decide)) z_range z_min z_len
  have cSmall : Cal l.prog w K mg base 3 "_law_small" ["deck"] (spSmallA K) := Cal.of gSmall fun F => ok_small (k := 2) F (cDraw.mono (by decide)) cRatio
  exact ok_law (k := 5) (fun_mk (st := sLaw) l2 c2 k2) (cDeck.mono (by decide)) (cDraw.mono (by decide)) (cSmall.mono (by decide)) (cSame.mono (by decide)) (cTotal.mono (by decide)) (cLTotal.mono (by decide)) (cProducts.mono (by decide)) (cLDot.mono (by decide)) z_range z_list
end Cs
open PySem PySem.W PyProof.Rows
set_option maxHeartbeats 0 in
theorem PySem.Challenge.cw_consol_k03_lists_of_fractions_holds : PySem.Challenge.rw_consol_k03_lists_of_fractions.Holds := by
  w_on; o_law; k_head; (case hw => w_witness2)
  k_fill
  refine L2.walk_of (l := PySem.Challenge.rw_consol_k03_lists_of_fractions) (n := 63) (k := 6) (x := "script") (CX := fun _ => L2.CX0) (sp := fun w => Cs.spLaw _) rfl (by decide) rfl ⟨rfl, by decide, by decide⟩ (fun w h Y => PySem.W.kIn_of Y) ?F (fun _ _ a ns hl _ hS => ⟨a, ns, rfl, hS, hl, fun _ => rfl⟩) (fun _ _ _ _ _ h => h)
  case F =>
    intro w mg fa h KX G hmg
    refine' Cs.all_mk KX G hmg (Cs.FunG.mk Cs.bdDeck KX G ?a0 ?l0 ?c0 ?k0) (Cs.FunG.mk Cs.bdDraw KX G ?a1 ?l1 ?c1 ?k1) (Cs.FunG.mk Cs.bdSame KX G ?a2 ?l2 ?c2 ?k2) (Cs.FunG.mk Cs.bdGcd KX G ?a3 ?l3 ?c3 ?k3) (Cs.FunG.mk Cs.bdRatio KX G ?a4 ?l4 ?c4 ?k4) (Cs.FunG.mk Cs.bdPlus KX G ?a5 ?l5 ?c5 ?k5) (Cs.FunG.mk Cs.bdTimes KX G ?a6 ?l6 ?c6 ?k6) (Cs.FunG.mk Cs.bdTotal KX G ?a7 ?l7 ?c7 ?k7) (Cs.FunG.mk Cs.bdProducts KX G ?a8 ?l8 ?c8 ?k8) (Cs.FunG.mk Cs.bdLAdd KX G ?a9 ?l9 ?c9 ?k9) (Cs.FunG.mk Cs.bdLTimes KX G ?a10 ?l10 ?c10 ?k10) (Cs.FunG.mk Cs.bdLTotal KX G ?a11 ?l11 ?c11 ?k11) (Cs.FunG.mk Cs.bdLDot KX G ?a12 ?l12 ?c12 ?k12) (Cs.FunG.mk Cs.bdSmall KX G ?a13 ?l13 ?c13 ?k13) (Cs.FunD2.mk Cs.bdFraction KX G ?aF ?lF ?cF ?kF ?tF) ?aL ?lL ?cL ?kL ?y_len ?y_int ?y_abs ?y_range ?y_isinstance ?y_tuple ?y_bool ?y_str ?y_list ?y_zip ?y_min ?y_gcd ?yZ ?lZ
    (case a0 => k_is)
    (case l0 => k_is)
    (case c0 => k_is)
    (case k0 => k_is)
    (case a1 => k_is)
    (case l1 => k_is)
    (case c1 => k_is)
    (case k1 => k_is)
    (case a2 => k_is)
    (case l2 => k_is)
    (case c2 => k_is)
    (case k2 => k_is)
    (case a3 => k_is)
    (case l3 => k_is)
    (case c3 => k_is)
    (case k3 => k_is)
    (case a4 => k_is)
    (case l4 => k_is)
    (case c4 => k_is)
    (case k4 => k_is)
    (case a5 => k_is)
    (case l5 => k_is)
    (case c5 => k_is)
    (case k5 => k_is)
    (case a6 => k_is)
    (case l6 => k_is)
    (case c6 => k_is)
    (case k6 => k_is)
    (case a7 => k_is)
    (case l7 => k_is)
    (case c7 => k_is)
    (case k7 => k_is)
    (case a8 => k_is)
    (case l8 => k_is)
    (case c8 => k_is)
    (case k8 => k_is)
    (case a9 => k_is)
    (case l9 => k_is)
    (case c9 => k_is)
    (case k9 => k_is)
    (case a10 => k_is)
    (case l10 => k_is)
    (case c10 => k_is)
    (case k10 => k_is)
    (case a11 => k_is)
    (case l11 => k_is)
    (case c11 => k_is)
    (case k11 => k_is)
    (case a12 => k_is)
    (case l12 => k_is)
    (case c12 => k_is)
    (case k12 => k_is)
    (case a13 => k_is)
    (case l13 => k_is)
    (case c13 => k_is)
    (case k13 => k_is)
    (case aF => k_is)
    (case lF => k_is)
    (case cF => k_is)
    (case kF => k_is)
    (case tF => k_is)
    (case aL => k_is)
    (case lL => k_is)
    (case cL => k_is)
    (case kL => k_is)
    (case y_len => k_is)
    (case y_int => k_is)
    (case y_abs => k_is)
    (case y_range => k_is)
    (case y_isinstance => k_is)
    (case y_tuple => k_is)
    (case y_bool => k_is)
    (case y_str => k_is)
    (case y_list => k_is)
    (case y_zip => k_is)
    (case y_min => k_is)
    (case y_gcd => k_is)
    (case yZ => k_is)
    (case lZ => k_is)
