import PyProof.Rows.All
import Wide.All
import OpenK.AllK
import Wide.FinOn
import HandS.ForMost
import HandS.Wide
import HandS.Gcd
import HandS.IsInst
import HandS.Defaults
import HandS.EndBits
import HandS.ForExc
import HandS.ExcIs
import HandS.Zip
import HandS.TupLe
import HandS.TryMany
import HandS.CallLocal
import HandS.CallSlots
import KE.KTupSum
import HandS.Walk
import HandS.ExcInit
import HandS.Star
import PySem.Challenge.RW_consol_k46_whole_least_set_of_defaults
import HandS.Dict
import HandS.DictComp
import HandS.MakeKwOnly
import HandS.Rev
import HandS.RevTup
import KE.KRevIter
import PyProof.ListNew
set_option Elab.async false
set_option linter.all false
set_option maxRecDepth 100000
set_option exponentiation.threshold 20000
namespace Cs
/-- the pair a fraction is -/
theorem divInt_pos (p q : Int) (hq : 0 < q) : (Rat.divInt p q).num = p / (Nat.gcd p.natAbs q.natAbs : Nat) ∧ ((Rat.divInt p q).den : Int) = q / (Nat.gcd p.natAbs q.natAbs : Nat) := by
  obtain ⟨n, rfl⟩ : ∃ n : Nat, q = (n : Int) := ⟨q.toNat, by omega⟩
  have hn : n ≠ 0 := by omega
  have e : Rat.divInt p (n : Int) = Rat.normalize p n hn := by
    rw [Rat.divInt_ofNat, ← Rat.normalize_eq_mkRat]
  rw [e, Rat.normalize_eq]
  refine ⟨rfl, ?_⟩
  show ((n / Nat.gcd p.natAbs n : Nat) : Int) = (n : Int) / (Nat.gcd p.natAbs (n : Int).natAbs : Nat)
  rw [Int.natAbs_natCast, Int.natCast_ediv]
theorem neg_ediv_dvd {a g : Int} (h : g ∣ a) : (-a) / g = -(a / g) := by
  obtain ⟨k, rfl⟩ := h
  by_cases hg : g = 0
  · subst hg; simp
  · rw [← Int.mul_neg, Int.mul_ediv_cancel_left _ hg, Int.mul_ediv_cancel_left _ hg]
theorem fdiv_neg_dvd {a g : Int} (hg : 0 < g) (h : g ∣ a) : a.fdiv (-g) = -(a / g) := by
  rw [Int.fdiv_neg (by omega), if_pos h, Int.fdiv_eq_ediv_of_nonneg _ (by omega)]
theorem gcd_dvd_p (p q : Int) : ((Nat.gcd p.natAbs q.natAbs : Nat) : Int) ∣ p := Int.ofNat_dvd_left.mpr (Nat.gcd_dvd_left _ _)
theorem gcd_dvd_q (p q : Int) : ((Nat.gcd p.natAbs q.natAbs : Nat) : Int) ∣ q := Int.ofNat_dvd_left.mpr (Nat.gcd_dvd_right _ _)
theorem gcd_pos (p q : Int) (hq : q ≠ 0) : 0 < ((Nat.gcd p.natAbs q.natAbs : Nat) : Int) := by
  have : 0 < Nat.gcd p.natAbs q.natAbs := Nat.gcd_pos_of_pos_right _ (by omega)
  omega
/-- what fraction computes -/
theorem frac_num (p q : Int) (hq : q ≠ 0) : (p.fdiv (if q < 0 then -((Nat.gcd p.natAbs q.natAbs : Nat) : Int) else ((Nat.gcd p.natAbs q.natAbs : Nat) : Int))) = (Rat.divInt p q).num := by
  have hg := gcd_pos p q hq
  split
  · rename_i h
    rw [fdiv_neg_dvd hg (gcd_dvd_p p q)]
    have e : Rat.divInt p q = Rat.divInt (-p) (-q) := by rw [Rat.neg_divInt_neg]
    rw [e, (divInt_pos (-p) (-q) (by omega)).1, Int.natAbs_neg, Int.natAbs_neg, neg_ediv_dvd (gcd_dvd_p p q)]
  · rename_i h
    rw [(divInt_pos p q (by omega)).1, Int.fdiv_eq_ediv_of_nonneg _ (by omega)]
theorem frac_den (p q : Int) (hq : q ≠ 0) : (q.fdiv (if q < 0 then -((Nat.gcd p.natAbs q.natAbs : Nat) : Int) else ((Nat.gcd p.natAbs q.natAbs : Nat) : Int))) = ((Rat.divInt p q).den : Int) := by
  have hg := gcd_pos p q hq
  split
  · rename_i h
    rw [fdiv_neg_dvd hg (gcd_dvd_q p q)]
    have e : Rat.divInt p q = Rat.divInt (-p) (-q) := by rw [Rat.neg_divInt_neg]
    rw [e, (divInt_pos (-p) (-q) (by omega)).2, Int.natAbs_neg, Int.natAbs_neg, neg_ediv_dvd (gcd_dvd_q p q)]
  · rename_i h
    rw [(divInt_pos p q (by omega)).2, Int.fdiv_eq_ediv_of_nonneg _ (by omega)]
/-! sizes -/
def Sz (n : Nat) (r : Rat) : Prop := r.num.natAbs < 2 ^ n ∧ r.den < 2 ^ n
theorem Sz.mono {n m : Nat} {r : Rat} (h : Sz n r) (k : n ≤ m) : Sz m r :=
  ⟨Nat.lt_of_lt_of_le h.1 (Nat.pow_le_pow_right (by decide) k), Nat.lt_of_lt_of_le h.2 (Nat.pow_le_pow_right (by decide) k)⟩
theorem sz_div {n : Nat} {p q : Int} (hq : q ≠ 0) (hp : p.natAbs < 2 ^ n) (h : q.natAbs < 2 ^ n) : Sz n (Rat.divInt p q) := by
  have hg := gcd_pos p q hq
  have key : ∀ p q : Int, 0 < q → p.natAbs < 2 ^ n → q.natAbs < 2 ^ n → Sz n (Rat.divInt p q) := by
    intro p q hq hp h
    have e1 := (divInt_pos p q hq).1
    have e2 := (divInt_pos p q hq).2
    refine ⟨?_, ?_⟩
    · rw [e1]
      refine Nat.lt_of_le_of_lt ?_ hp
      rw [Int.natAbs_ediv_of_dvd (gcd_dvd_p p q)]
      exact Nat.div_le_self _ _
    · have : (Rat.divInt p q).den = q.natAbs / (Nat.gcd p.natAbs q.natAbs) := by
        have : (((Rat.divInt p q).den : Int)).natAbs = (q / (Nat.gcd p.natAbs q.natAbs : Nat)).natAbs := by rw [e2]
        rw [Int.natAbs_natCast, Int.natAbs_ediv_of_dvd (gcd_dvd_q p q), Int.natAbs_natCast] at this
        exact this
      rw [this]
      exact Nat.lt_of_le_of_lt (Nat.div_le_self _ _) h
  by_cases hn : q < 0
  · have e : Rat.divInt p q = Rat.divInt (-p) (-q) := by rw [Rat.neg_divInt_neg]
    rw [e]
    exact key _ _ (by omega) (by rw [Int.natAbs_neg]; exact hp) (by rw [Int.natAbs_neg]; exact h)
  · exact key p q (by omega) hp h
theorem pow_lt {i j : Int} {a b : Nat} (ha : i.natAbs < 2 ^ a) (hb : j.natAbs < 2 ^ b) : (i * j).natAbs < 2 ^ (a + b) := by
  rw [Int.natAbs_mul, Nat.pow_add]
  exact Nat.mul_lt_mul'' ha hb
theorem add_lt {i j : Int} {a : Nat} (ha : i.natAbs < 2 ^ a) (hb : j.natAbs < 2 ^ a) : (i + j).natAbs < 2 ^ (a + 1) := by
  have : (2 : Nat) ^ (a + 1) = 2 ^ a * 2 := Nat.pow_succ ..
  omega
theorem sub_lt {i j : Int} {a : Nat} (ha : i.natAbs < 2 ^ a) (hb : j.natAbs < 2 ^ a) : (i - j).natAbs < 2 ^ (a + 1) := by
  have : (2 : Nat) ^ (a + 1) = 2 ^ a * 2 := Nat.pow_succ ..
  omega
theorem den_ne (r : Rat) : (r.den : Int) ≠ 0 := by have := r.den_nz; omega
theorem den_pos (r : Rat) : 0 < (r.den : Int) := by have := r.den_nz; omega
theorem add_div (r s : Rat) : Rat.divInt (r.num * s.den + s.num * r.den) (r.den * s.den) = r + s := by
  rw [← Rat.divInt_add_divInt _ _ (den_ne r) (den_ne s), Rat.num_divInt_den, Rat.num_divInt_den]
theorem sub_div (r s : Rat) : Rat.divInt (r.num * s.den - s.num * r.den) (r.den * s.den) = r - s := by
  rw [← Rat.divInt_sub_divInt _ _ (den_ne r) (den_ne s), Rat.num_divInt_den, Rat.num_divInt_den]
theorem mul_div (r s : Rat) : Rat.divInt (r.num * s.num) (r.den * s.den) = r * s := by
  rw [← Rat.divInt_mul_divInt, Rat.num_divInt_den, Rat.num_divInt_den]
theorem div_div (r s : Rat) : Rat.divInt (r.num * s.den) (r.den * s.num) = r / s := by
  rw [Rat.div_def, ← Rat.divInt_mul_divInt, Rat.num_divInt_den]
  rw [Rat.inv_def]
theorem num_ne {s : Rat} (h : s.num ≠ 0) : s ≠ 0 := fun e => h (by rw [e]; rfl)
/-! Euclid's steps -/
def EG (g : Nat) (N i : Nat) (a b : Nat) : Prop := Nat.gcd a b = g ∧ (i = 0 → a * b < 2 ^ N) ∧ (0 < i → b < a ∧ a * b < 2 ^ (N + 1 - i))
theorem EG.start {N a b : Nat} (h : a * b < 2 ^ N) : EG (Nat.gcd a b) N 0 a b := ⟨rfl, fun _ => h, fun z => absurd z (by decide)⟩
theorem EG.step {g N i a b : Nat} (h : EG g N i a b) (hb : 0 < b) (hi : i ≤ N) : EG g N (i + 1) b (a % b) := by
  obtain ⟨h1, h2, h3⟩ := h
  have hlt : a % b < b := Nat.mod_lt _ hb
  refine ⟨?_, fun z => absurd z (by omega), fun _ => ⟨hlt, ?_⟩⟩
  · rw [← h1, Nat.gcd_comm a b, Nat.gcd_rec b a, Nat.gcd_comm]
  · by_cases h0 : i = 0
    · subst h0
      have e := h2 rfl
      rw [show N + 1 - (0 + 1) = N by omega]
      refine Nat.lt_of_le_of_lt ?_ e
      rw [Nat.mul_comm a b]
      exact Nat.mul_le_mul_left _ (Nat.mod_le _ _)
    · obtain ⟨hba, hp⟩ := h3 (by omega)
      have e1 : N + 1 - i = (N + 1 - (i + 1)) + 1 := by omega
      rw [e1, Nat.pow_succ] at hp
      have hd := Nat.div_add_mod a b
      have hq : 1 ≤ a / b := Nat.div_pos (Nat.le_of_lt hba) hb
      have ha : b + a % b ≤ a := by
        have : b * 1 ≤ b * (a / b) := Nat.mul_le_mul_left _ hq
        omega
      have : b * (a % b) * 2 ≤ a * b := by
        have h5 : b * (a % b) + b * (a % b) ≤ b * (b + a % b) := by
          rw [Nat.mul_add]
          exact Nat.add_le_add_right (Nat.mul_le_mul_left _ (Nat.le_of_lt hlt)) _
        have h6 : b * (b + a % b) ≤ b * a := Nat.mul_le_mul_left _ ha
        rw [Nat.mul_comm a b]
        omega
      omega
theorem EG.zero {g N i a : Nat} (h : EG g N i a 0) : a = g := by
  have := h.1
  rwa [Nat.gcd_zero_right] at this
theorem EG.last {g N a b : Nat} (h : EG g N (N + 1) a b) : b = 0 := by
  obtain ⟨h1, h2⟩ := h.2.2 (by omega)
  rw [show N + 1 - (N + 1) = 0 by omega, Nat.pow_zero] at h2
  cases b with
  | zero => rfl
  | succ b =>
    have : 1 * 1 ≤ a * (b + 1) := Nat.mul_le_mul (by omega) (by omega)
    omega
end Cs
set_option maxHeartbeats 4000000
namespace Cs
open PySem PySem.Spec PyProof.Rows L2
/-! ### operators at any size -/
def CDivA (_ j : Int) : Prop := j ≠ 0 ∧ j.natAbs < 2 ^ 9000
section
variable {X : Cx}
theorem op_fdivA : OpR X (binaryOp .FloorDiv) (rI CDivA fun i j => .int (i.fdiv j)) := opI fun _ _ _ _ _ _ _ hc q =>
  floordiv_int hc.1 q (.inl (PyProof.noPylong_of_log2 (PySem.Flt.log2_lt_of (by decide) hc.2)))
theorem op_mulA : OpR X (binaryOp .Mult) (rI IntMulOk fun i j => .int (i * j)) := opI fun _ _ _ _ _ _ _ hc q => mul_int q hc
end
theorem mulL {i j : Int} (h : i.natAbs < 2 ^ 64) : IntMulOk i j := CMul.ok (.inl (by omega))
theorem mulR {i j : Int} (h : j.natAbs < 2 ^ 64) : IntMulOk i j := CMul.ok (.inr (by omega))
theorem mulB {i j : Int} {a : Nat} (hi : i.natAbs < 2 ^ a) (hj : j.natAbs < 2 ^ a) (h0 : 0 < a) (h : a ≤ 500000) : IntMulOk i j := (wide_mul hi hj h0 h0 (by omega)).ok
/-! ### a def that may be called -/
def Cal (P : Program) (w : World) (K : PySem.W.Frag) (mg : Str → Option Value) (base : Heap) (k : Nat) (x : Str) (ps : List Str) (sp : Sp) : Prop :=
  ∃ (f : Addr) (fd : FuncData), FnOk P w K mg base CX0 k f fd ps sp ∧ mg x = some (.ref f) ∧ PySem.W.keepIn K (.ref f) = true ∧ Binds K fd ps []
/-- a def of the text, with its place and how it binds -/
def FunG (K : PySem.W.Frag) (mg : Str → Option Value) (x : Str) (st : Stmt) (ps : List Str) : Prop :=
  ∃ (f : Addr) (fd : FuncData), Fun K x x st f fd ∧ mg x = some (.ref f) ∧ Binds K fd ps []
section
variable {P : Program} {w : World} {K : PySem.W.Frag} {mg : Str → Option Value} {base : Heap} {k j : Nat} {x : Str} {ps : List Str} {sp sp' : Sp} {st : Stmt}
theorem Cal.of (F : FunG K mg x st ps) (h : ∀ {f : Addr} {fd : FuncData}, Fun K x x st f fd → FnOk P w K mg base CX0 k f fd ps sp) : Cal P w K mg base k x ps sp := by
  obtain ⟨f, fd, F, g, b⟩ := F
  exact ⟨f, fd, h F, g, F.kp, b⟩
theorem Cal.mono (c : Cal P w K mg base j x ps sp) (h : j ≤ k) : Cal P w K mg base k x ps sp := by
  obtain ⟨f, fd, F, g⟩ := c
  exact ⟨f, fd, F.mono h, g⟩
theorem Cal.imp (c : Cal P w K mg base k x ps sp) (h : ∀ vs H Q E, sp' vs H Q E → sp vs H Q E) : Cal P w K mg base k x ps sp' := by
  obtain ⟨f, fd, F, g⟩ := c
  exact ⟨f, fd, F.imp h, g⟩
theorem FunG.of {f : Addr} {fd : FuncData} (F : Fun K x x st f fd) (g : mg x = some (.ref f)) (b : Binds K fd ps []) : FunG K mg x st ps := ⟨f, fd, F, g, b⟩
end
section
variable {X : Cx} {k : Nat} {x : Str} {ps : List Str} {sp : Sp} {p pos : Pos} {e : Expr} {es : List Expr} {t : TA}
theorem pe_cal (c : Cal X.prog X.w X.K X.mg X.base k x ps sp) (hr : Room k X.A) (hg : Gl X x) (ha : PA X (e :: es) t) (hdb : (x == ("__debug__" : Str)) = false := by decide)
    (he : starEach (e :: es) X.env = (false, eval e X.env) :: starEach es X.env := by rfl) (hpl : (backTo pos (starEach es X.env)).any (·.1) = false := by rfl) :
    PE X (.Call (.Name x p) (e :: es) [] pos) (tCall sp [] E0 t) := by
  obtain ⟨f, fd, F, g, kp, b⟩ := c
  exact pe_call F hr hg g kp b .nil pass0 ha hdb he hpl
end
/-! ### heaps -/
/-- all but d is as it was -/
def But (d : Addr) (H H' : Hp) : Prop := ∀ b o, b ≠ d → H b = some o → H' b = some o
theorem But.refl {d : Addr} {H : Hp} : But d H H := fun _ _ _ h => h
theorem But.trans {d : Addr} {H H1 H2 : Hp} (a : But d H H1) (b : But d H1 H2) : But d H H2 := fun c o n h => b c o n (a c o n h)
theorem But.upd {d : Addr} {H : Hp} {o : HO} : But d H (upd H d o) := fun b o' n h => by rw [upd_ne n]; exact h
theorem Same.but {d : Addr} {H H' : Hp} (s : Same H H') : But d H H' := fun b o _ h => s b o h
theorem Same.new {H : Hp} {p : Addr} {o : HO} (h : H p = none) : Same H (upd H p o) := fun b x e => by
  rw [upd_ne (ne_of_none e h)]
  exact e
theorem But.seq {K : PySem.W.Frag} {d a : Addr} {xs : List V} {H H' : Hp} (b : But d H H') (n : a ≠ d) (h : SqL K H a xs) : SqL K H' a xs := by
  rcases h with (h | ⟨o, h⟩) | h
  · exact .inl (.inl (b _ _ n h))
  · exact .inl (.inr ⟨o, b _ _ n h⟩)
  · exact .inr h
theorem But.tup {d a : Addr} {xs : List V} {H H' : Hp} {ys : List V} (b : But d H H') (hd : H d = some (.lst ys)) (h : H a = some (.tup xs)) : H' a = some (.tup xs) :=
  b a _ (ne_of h hd (fun z => nomatch z)) h
/-! ### the deck: the script's list, the next cell, what is left of a cell, the state -/
def DeckO (l : Addr) (b c e : Int) : HO := .lst [.ref l, .int b, .int c, .int e]
def Deck (K : PySem.W.Frag) (H : Hp) (d : Addr) : Prop := ∃ (l : Addr) (ns : List Int) (b c e : Int), H d = some (DeckO l b c e) ∧ SqL K H l (ns.map V.int) ∧ l ≠ d ∧ 0 ≤ b
theorem Deck.same {K : PySem.W.Frag} {H H' : Hp} {d : Addr} (s : Same H H') (h : Deck K H d) : Deck K H' d := by
  obtain ⟨l, ns, b, c, e, h1, h2, h3, h4⟩ := h
  exact ⟨l, ns, b, c, e, s _ _ h1, s.seq h2, h3, h4⟩
theorem Deck.lst {K : PySem.W.Frag} {H : Hp} {d : Addr} (h : Deck K H d) : ∃ ys, H d = some (.lst ys) := by
  obtain ⟨l, ns, b, c, e, h1, h2, h3, h4⟩ := h
  exact ⟨_, h1⟩
theorem But.tupD {K : PySem.W.Frag} {d a : Addr} {xs : List V} {H H' : Hp} (b : But d H H') (hd : Deck K H d) (h : H a = some (.tup xs)) : H' a = some (.tup xs) := by
  obtain ⟨ys, e⟩ := hd.lst
  exact b.tup e h
theorem deck_of {K : PySem.W.Frag} {H H1 : Hp} {d l : Addr} {ns : List Int} {b c e : Int} (hl : SqL K H l (ns.map V.int)) (ne : l ≠ d) (hb : But d H H1) (h : H1 d = some (DeckO l b c e)) (b0 : 0 ≤ b) : Deck K H1 d :=
  ⟨l, ns, b, c, e, h, hb.seq ne hl, ne, b0⟩
theorem cell_at {ns : List Int} {b : Int} (b0 : 0 ≤ b) (h : b < (ns.length : Int)) : ∃ z, atI (ns.map V.int) b = some (.int z) := by
  obtain ⟨j, rfl⟩ : ∃ j : Nat, b = (j : Int) := ⟨b.toNat, by omega⟩
  have hj : j < ns.length := by omega
  exact ⟨ns[j], atI_nat (by rw [List.getElem?_map, List.getElem?_eq_getElem hj]; rfl)⟩
def spDeck (K : PySem.W.Frag) : Sp := fun vs H Q _ => ∃ (a : Addr) (ns : List Int), vs = [.ref a] ∧ SqL K H a (ns.map V.int) ∧ ∀ d H', Same H H' → H d = none → Deck K H' d → Q (.ref d) H'
def spDraw (K : PySem.W.Frag) : Sp := fun vs H Q _ => ∃ (d : Addr) (m : Int), vs = [.ref d, .int m] ∧ 0 < m ∧ m.natAbs < 2 ^ 8000 ∧ Deck K H d ∧ ∀ v H', 0 ≤ v → v < m → But d H H' → Deck K H' d → Q (.int v) H'
/-! ### fractions -/
def nd (r : Rat) : HO := .tup [.int r.num, .int (r.den : Int)]
def spFrac : Sp := fun vs H Q _ => ∃ p q : Int, vs = [.int p, .int q] ∧ q ≠ 0 ∧ q.natAbs < 2 ^ 9000 ∧ ∀ t H', Same H H' → H t = none → H' t = some (nd (Rat.divInt p q)) → Q (.ref t) H'
def spGcd : Sp := fun vs H Q _ => ∃ a b : Nat, vs = [.int a, .int b] ∧ a < 2 ^ 2400 ∧ b < 2 ^ 2400 ∧ Q (.int (Nat.gcd a b : Nat)) H
def spRatio : Sp := fun vs H Q _ => ∃ p q : Int, vs = [.int p, .int q] ∧ q ≠ 0 ∧ p.natAbs < 2 ^ 2400 ∧ q.natAbs < 2 ^ 2400 ∧ ∀ t H', Same H H' → H t = none → H' t = some (nd (Rat.divInt p q)) → Q (.ref t) H'
def spOp (f : Rat → Rat → Rat) (ok : Rat → Rat → Prop) : Sp := fun vs H Q _ => ∃ (a b : Addr) (r s : Rat), vs = [.ref a, .ref b] ∧ H a = some (nd r) ∧ H b = some (nd s) ∧ Sz 1000 r ∧ Sz 1000 s ∧ ok r s ∧ ∀ t H', Same H H' → H t = none → H' t = some (nd (f r s)) → Q (.ref t) H'
def spCmp (f : Rat → Rat → V) : Sp := fun vs H Q _ => ∃ (a b : Addr) (r s : Rat), vs = [.ref a, .ref b] ∧ H a = some (nd r) ∧ H b = some (nd s) ∧ Sz 1000 r ∧ Sz 1000 s ∧ ∀ H', Same H H' → Q (f r s) H'
/-- -1, 0 or 1 -/
def cmpR (r s : Rat) : Int := (r.num * s.den - s.num * r.den).sign
theorem cmpR_eq {r s : Rat} (h : cmpR r s = 0) : r = s := by
  have e : r.num * s.den = s.num * r.den := by
    have := Int.sign_eq_zero_iff_zero.mp h
    omega
  have h1 : ¬ r < s := fun z => by have := (Rat.lt_iff r s).mp z; omega
  have h2 : ¬ s < r := fun z => by have := (Rat.lt_iff s r).mp z; omega
  grind
theorem cmpR_neg (r s : Rat) : cmpR s r = -cmpR r s := by
  unfold cmpR
  rw [← Int.sign_neg]
  congr 1
  omega
theorem cmpR_lt {r s : Rat} : cmpR r s = -1 ↔ r < s := by
  unfold cmpR
  rw [Rat.lt_iff, Int.sign_eq_neg_one_iff_neg]
  omega
theorem cmpR_gt {r s : Rat} : cmpR r s = 1 ↔ s < r := by
  unfold cmpR
  rw [Rat.lt_iff, Int.sign_eq_one_iff_pos]
  omega
theorem cmpR_three (r s : Rat) : cmpR r s = -1 ∨ cmpR r s = 0 ∨ cmpR r s = 1 := by
  unfold cmpR
  rcases Int.lt_trichotomy (r.num * s.den - s.num * r.den) 0 with h | h | h
  · exact .inl (Int.sign_eq_neg_one_iff_neg.mpr h)
  · rw [h]; exact .inr (.inl rfl)
  · exact .inr (.inr (Int.sign_eq_one_iff_pos.mpr h))
theorem cmpR_add (r s t : Rat) : cmpR (r + t) (s + t) = cmpR r s := by
  rcases cmpR_three r s with h | h | h
  · rw [h, cmpR_lt]
    have := cmpR_lt.mp h
    grind
  · rw [cmpR_eq h]
    unfold cmpR
    rw [Int.sub_self, Int.sub_self]
  · rw [h, cmpR_gt]
    have := cmpR_gt.mp h
    grind
theorem sign_le (d : Int) : d.sign ≤ 0 ↔ ¬ 0 < d := by
  rcases Int.lt_trichotomy d 0 with h | h | h
  · rw [Int.sign_eq_neg_one_iff_neg.mpr h]; omega
  · subst h; decide
  · rw [Int.sign_eq_one_iff_pos.mpr h]; omega
theorem sign_if (d : Int) : (if decide (0 < d) = true then (1 : Int) else 0) - (if decide (d < 0) = true then 1 else 0) = d.sign := by
  rcases Int.lt_trichotomy d 0 with h | h | h
  · rw [Int.sign_eq_neg_one_iff_neg.mpr h, decide_eq_true h, decide_eq_false (by omega)]; rfl
  · subst h; rfl
  · rw [Int.sign_eq_one_iff_pos.mpr h, decide_eq_true h, decide_eq_false (by omega)]; rfl
theorem sign_if2 (d : Int) : (if decide (d < 0) = true then (-1 : Int) else if decide (0 < d) = true then 1 else 0) = d.sign := by
  rcases Int.lt_trichotomy d 0 with h | h | h
  · rw [Int.sign_eq_neg_one_iff_neg.mpr h, decide_eq_true h]; rfl
  · subst h; rfl
  · rw [Int.sign_eq_one_iff_pos.mpr h, decide_eq_true h, decide_eq_false (by omega)]; rfl
/-! ### isinstance -/
theorem kit_ii : kitB "int" "int" = some true := by decide +kernel
theorem kit_ib : kitB "int" "bool" = some false := by decide +kernel
theorem kit_it : kitB "int" "tuple" = some false := by decide +kernel
theorem kit_bi : kitB "bool" "int" = some true := by decide +kernel
theorem kit_bb : kitB "bool" "bool" = some true := by decide +kernel
theorem kit_bt : kitB "bool" "tuple" = some false := by decide +kernel
theorem kit_tt : kitB "tuple" "tuple" = some true := by decide +kernel
/-- same as the law's own: ints, truths, fractions -/
def spSame0 : Sp := fun vs H Q _ => (∃ i j : Int, vs = [.int i, .int j] ∧ Q (.bl (decide (i = j))) H) ∨ (∃ a b : Bool, vs = [.bl a, .bl b] ∧ Q (.bl (decide (a = b))) H)
def spSame : Sp := fun vs H Q E => spSame0 vs H Q E ∨ ∃ (a b : Addr) (r s : Rat), vs = [.ref a, .ref b] ∧ H a = some (nd r) ∧ H b = some (nd s) ∧ Q (.bl (decide (r = s))) H
def spNumber (K : PySem.W.Frag) : Sp := fun vs H Q _ => ∃ d : Addr, vs = [.ref d] ∧ Deck K H d ∧ ∀ (t : Addr) (r : Rat) (H' : Hp), But d H H' → Deck K H' d → Sz 42 r → H' t = some (nd r) → Q (.ref t) H'
def spSmaller : Sp := fun vs H Q _ => ∃ (a b : Addr) (r s : Rat), vs = [.ref a, .ref b] ∧ H a = some (nd r) ∧ H b = some (nd s) ∧ Sz 1000 r ∧ Sz 1000 s ∧ ∀ H', Same H H' → Q (if cmpR r s ≤ 0 then .ref a else .ref b) H'
def spGreater : Sp := fun vs H Q _ => ∃ (a b : Addr) (r s : Rat), vs = [.ref a, .ref b] ∧ H a = some (nd r) ∧ H b = some (nd s) ∧ Sz 1000 r ∧ Sz 1000 s ∧ ∀ H', Same H H' → Q (if 0 ≤ cmpR r s then .ref a else .ref b) H'
def spWhole : Sp := fun vs H Q _ => ∃ (a : Addr) (r : Rat), vs = [.ref a] ∧ H a = some (nd r) ∧ Sz 1000 r ∧ Q (.int (r.num / (r.den : Int))) H
def spIsInt : Sp := fun vs H Q _ => ∃ i : Int, vs = [.int i] ∧ Q (.bl true) H
theorem nd_int (n : Int) : nd (n : Rat) = .tup [.int n, .int 1] := rfl
theorem nd_inj {r s : Rat} (h1 : r.num = s.num) (h2 : (r.den : Int) = s.den) : r = s := Rat.ext h1 (by omega)
theorem Sz.int {k : Nat} {n : Int} (h : n.natAbs < 2 ^ k) (hk : 0 < k) : Sz k (n : Rat) := ⟨h, Nat.one_lt_two_pow (by omega)⟩
theorem Sz.nn {n : Nat} {r : Rat} (h : Sz n r) : r.num.natAbs < 2 ^ n := h.1
theorem Sz.dd {n : Nat} {r : Rat} (h : Sz n r) : ((r.den : Int)).natAbs < 2 ^ n := by rw [Int.natAbs_natCast]; exact h.2
theorem mulZ {i j : Int} (hi : i.natAbs < 2 ^ 1000) (hj : j.natAbs < 2 ^ 1000) : IntMulOk i j := mulB hi hj (by decide) (by decide)
theorem lt9 {i : Int} {a : Nat} (h : i.natAbs < 2 ^ a) (k : a ≤ 9000) : i.natAbs < 2 ^ 9000 := Nat.lt_of_lt_of_le h (Nat.pow_le_pow_right (by decide) k)
theorem fdivI {i j : Int} {V' : Int → V} : (fun i j => V' (i.fdiv j)) i j = V' (i.fdiv j) := rfl
theorem sz_add {n : Nat} {r s : Rat} (h : Sz n r) (g : Sz n s) : Sz (n + n + 1) (r + s) := by
  rw [← add_div]
  exact sz_div (Int.mul_ne_zero (den_ne r) (den_ne s)) (add_lt (pow_lt h.nn g.dd) (pow_lt g.nn h.dd)) (Nat.lt_trans (pow_lt h.dd g.dd) (Nat.pow_lt_pow_right (by decide) (by omega)))
theorem sz_mul {n : Nat} {r s : Rat} (h : Sz n r) (g : Sz n s) : Sz (n + n) (r * s) := by
  rw [← mul_div]
  exact sz_div (Int.mul_ne_zero (den_ne r) (den_ne s)) (pow_lt h.nn g.nn) (pow_lt h.dd g.dd)
theorem sz_sub {n : Nat} {r s : Rat} (h : Sz n r) (g : Sz n s) : Sz (n + n + 1) (r - s) := by
  rw [← sub_div]
  exact sz_div (Int.mul_ne_zero (den_ne r) (den_ne s)) (sub_lt (pow_lt h.nn g.dd) (pow_lt g.nn h.dd)) (Nat.lt_trans (pow_lt h.dd g.dd) (Nat.pow_lt_pow_right (by decide) (by omega)))
theorem sz_quo {n : Nat} {r s : Rat} (h : Sz n r) (g : Sz n s) (hs : s.num ≠ 0) : Sz (n + n) (r / s) := by
  rw [← div_div]
  exact sz_div (Int.mul_ne_zero (den_ne r) hs) (pow_lt h.nn g.dd) (pow_lt h.dd g.nn)
theorem sz_zero {n : Nat} (h : 0 < n) : Sz n 0 := ⟨Nat.two_pow_pos n, Nat.one_lt_two_pow (by omega)⟩
def spLaw (K : PySem.W.Frag) : Sp := fun vs H Q _ => ∃ (a : Addr) (ns : List Int), vs = [.ref a] ∧ SqL K H a (ns.map V.int) ∧ ns.length ≤ 63 ∧ ∀ H', Q (.bl true) H'
/-! ### what the top has written -/
section
variable {K : PySem.W.Frag} {h : Heap} {mg : Str → Option Value}
theorem FunG.mk {x : Str} {st : Stmt} {ps : List Str} {f : Addr} {od an : Option Addr} {sl : Array (Option Value)} {oc kV dc pm cd ct : Value}
    (hb : ∀ (kV doc pm : Value) (an : Option Addr) (cdv ct : Value) (us : List Value), us.length = ps.length → bindArgs (PySem.W.fnOf x x (defArgs st) (defBody st) (defScope st) .none kV doc pm an cdv ct) ⟨us, []⟩ = pure (ps.zip us))
    (X : K.In h) (G : h.Ns mainGlobals mg)
    (a : PySem.W.nsIn K mainGlobals x = some (some (.ref f))) (l : K.lookup f = some ⟨oc, od, .func (PySem.W.fnOf x x (defArgs st) (defBody st) (defScope st) .none kV dc pm an cd ct), sl⟩) (c : PySem.W.codeIn K cd x = true) (k : PySem.W.keepIn K (.ref f) = true) : FunG K mg x st ps := by
  have F := fun_mk (st := st) l c k
  exact ⟨f, _, F, PySem.W.mg_of X G a, F.binds hb⟩
/-- a def of two parameters, the second one with an int as its default, called with both -/
def FunD2 (K : PySem.W.Frag) (mg : Str → Option Value) (x : Str) (st : Stmt) (ps : List Str) : Prop :=
  ∃ (f : Addr) (fd : FuncData), FunD K x x (defArgs st) (defBody st) (defScope st) [.int 1] [] f fd ∧ mg x = some (.ref f) ∧ PySem.W.keepIn K (.ref f) = true ∧ Binds K fd ps []
theorem FunD2.mk {x p q : Str} {st : Stmt} {f T : Addr} {od an dT : Option Addr} {sl slT : Array (Option Value)} {oc kV dc pm cd ct cT : Value} {nT : Nat} {tk : Tok}
    (hb : ∀ (T : Addr) (kV doc pm : Value) (an : Option Addr) (cdv ct : Value) (us its : List Value), us.length = 2 → its.length = ([V.int 1]).length →
      ∃ k, bindArgs (PySem.W.fnOf x x (defArgs st) (defBody st) (defScope st) (.ref T) kV doc pm an cdv ct) ⟨us, []⟩ = seqItems? (.ref T) >>= k ∧ k (some its.toArray) = pure ([p, q].zip (us ++ its.drop 1)))
    (X : K.In h) (G : h.Ns mainGlobals mg)
    (a : PySem.W.nsIn K mainGlobals x = some (some (.ref f))) (l : K.lookup f = some ⟨oc, od, .func (PySem.W.fnOf x x (defArgs st) (defBody st) (defScope st) (.ref T) kV dc pm an cd ct), sl⟩) (c : PySem.W.codeIn K cd x = true) (k : PySem.W.keepIn K (.ref f) = true)
    (lT : K.lookup T = some ⟨cT, dT, .seq #[.int 1 tk] nT, slT⟩) : FunD2 K mg x st [p, q] := by
  have F : FunD K x x (defArgs st) (defBody st) (defScope st) [.int 1] [] f _ := ⟨⟨oc, od, .ref T, kV, dc, pm, an, cd, ct, sl, rfl, l, c, .inr ⟨by simp, T, _, [.int 1 tk], nT, rfl, lT, rfl, .cons ⟨tk, rfl⟩ .nil⟩, .inl rfl⟩, k⟩
  obtain ⟨ds, hv, hB⟩ := F.binds1 (ps := [p, q]) 2 1 (by simp) rfl hb
  cases hv
  exact ⟨f, _, F, PySem.W.mg_of X G a, k, hB⟩
end
end Cs
set_option maxHeartbeats 4000000
namespace Cs
open PySem PySem.Spec PyProof.Rows L2
/-! ### heaps in which the things that change are hidden -/
def hid (S : List Addr) (H : Hp) : Hp := fun a => if a ∈ S then none else H a
section
variable {S T : List Addr} {H H' : Hp} {a p : Addr} {o : HO}
theorem hid_of (h : a ∉ S) : hid S H a = H a := by unfold hid; rw [if_neg h]
theorem hid_sub : Same (hid S H) H := fun b o h => by
  unfold hid at h
  split at h
  · cases h
  · exact h
theorem hid_same (e : Same H H') : Same (hid S H) (hid S H') := fun b o h => by
  unfold hid at h ⊢
  split at h
  · cases h
  · rename_i q; rw [if_neg q]; exact e _ _ h
theorem hid_less (h : ∀ a, a ∈ S → a ∈ T) : Same (hid T H) (hid S H) := fun b o q => by
  unfold hid at q ⊢
  split at q
  · cases q
  · rename_i z; rw [if_neg (fun y => z (h _ y))]; exact q
theorem hid_upd (h : a ∈ S) : hid S (upd H a o) = hid S H := by
  funext b
  unfold hid
  split
  · rfl
  · rename_i q; exact upd_ne (fun z => q (z ▸ h))
end
/-- all but M is as it was -/
def Bt (M : List Addr) (H H' : Hp) : Prop := ∀ b o, b ∉ M → H b = some o → H' b = some o
theorem Bt.refl {M : List Addr} {H : Hp} : Bt M H H := fun _ _ _ h => h
theorem Bt.trans {M : List Addr} {H H1 H2 : Hp} (a : Bt M H H1) (b : Bt M H1 H2) : Bt M H H2 := fun c o n h => b c o n (a c o n h)
theorem Bt.of {M : List Addr} {H H' : Hp} (e : Same H H') : Bt M H H' := fun b o _ h => e b o h
theorem Bt.same {H H' : Hp} (e : Bt [] H H') : Same H H' := fun b o h => e b o (by simp) h
theorem Bt.mono {M N : List Addr} {H H' : Hp} (e : Bt M H H') (h : ∀ a, a ∈ M → a ∈ N) : Bt N H H' := fun b o n q => e b o (fun z => n (h _ z)) q
/-- news are the addresses that are hidden from now on: they were free -/
theorem Bt.hid {M S N : List Addr} {H H' : Hp} (e : Bt M H H') (h : ∀ a, a ∈ M → a ∈ S) (hN : ∀ a, a ∈ N → a ∈ S ∨ H a = none) : Same (hid S H) (hid (N ++ S) H') := fun b o q => by
  have q' := hid_sub _ _ q
  have n : b ∉ S := fun z => by unfold Cs.hid at q; rw [if_pos z] at q; cases q
  have n2 : b ∉ N ++ S := fun z => by
    rcases List.mem_append.mp z with z | z
    · rcases hN b z with y | y
      · exact n y
      · rw [y] at q'; cases q'
    · exact n z
  rw [hid_of n2]
  exact e b o (fun z => n (h _ z)) q'
/-! ### what a value is, by a Lean value -/
structure Ty (α : Type) where
  r : Hp → V → α → Prop
  mono : ∀ {H H' : Hp} {v : V} {x : α}, Same H H' → r H v x → r H' v x
/-- what a slot holds -/
structure SF where
  p : Hp → V → Prop
  mono : ∀ {H H' : Hp} {v : V}, Same H H' → p H v → p H' v
/-- what stands in a cell -/
structure CF where
  p : Hp → HO → Prop
  mono : ∀ {H H' : Hp} {o : HO}, Same H H' → p H o → p H' o
/-- a thing that changes: the addresses that are its own, and what is true of them (F: what can be read otherwise) -/
structure RS where
  fp : List Addr
  p : Hp → Hp → Prop
  mono : ∀ {F F' H : Hp}, Same F F' → p F H → p F' H
  loc : ∀ {F H H' : Hp}, (∀ a, a ∈ fp → H' a = H a) → p F H → p F H'
def cell (a : Addr) (φ : CF) : RS := ⟨[a], fun F H => ∃ o, H a = some o ∧ φ.p F o, fun e ⟨o, h, g⟩ => ⟨o, h, φ.mono e g⟩, fun e ⟨o, h, g⟩ => ⟨o, by rw [e a (List.mem_cons_self ..)]; exact h, g⟩⟩
def Ty.is {α : Type} (t : Ty α) (x : α) : SF := ⟨fun H v => t.r H v x, fun e h => t.mono e h⟩
/-- what is known of the heap -/
structure FF where
  p : Hp → Prop
  mono : ∀ {H H' : Hp}, Same H H' → p H → p H'
def fps (L : List RS) : List Addr := L.flatMap RS.fp
theorem mem_fps {L : List RS} {r : RS} {a : Addr} (h : r ∈ L) (g : a ∈ r.fp) : a ∈ fps L := List.mem_flatMap.mpr ⟨r, h, g⟩
theorem of_fps {L : List RS} {a : Addr} (h : a ∈ fps L) : ∃ r, r ∈ L ∧ a ∈ r.fp := by
  obtain ⟨r, h1, h2⟩ := List.mem_flatMap.mp h
  exact ⟨r, h1, h2⟩
theorem fps_sub {A B : List RS} (h : A.Sublist B) : (fps A).Sublist (fps B) := by
  induction h with
  | slnil => exact List.Sublist.refl _
  | cons a _ ih => exact ih.trans (List.sublist_append_right _ _)
  | cons_cons a _ ih => exact List.Sublist.append (List.Sublist.refl _) ih
structure Wd where
  H0 : Hp
  M : List Addr
  S : List Addr
  L : List RS
  F : List FF
  G : List (Option SF)
structure Ok (W : Wd) (σ : L2.St) (H : Hp) : Prop where
  nod : (fps W.L).Nodup
  own : ∀ a, a ∈ fps W.L → a ∈ W.S ∧ (a ∈ W.M ∨ W.H0 a = none)
  at_ : ∀ r, r ∈ W.L → r.p (hid W.S H) H
  ms : ∀ a, a ∈ W.M → a ∈ W.S
  al : ∀ a, a ∈ W.S → H a ≠ none
  bt : Bt W.M W.H0 H
  len : σ.length = W.G.length
  facts : ∀ f, f ∈ W.F → f.p (hid W.S H)
  slots : ∀ (i : Nat) (f : SF), W.G[i]? = some (some f) → ∃ v, σ[i]? = some (some v) ∧ f.p (hid W.S H) v
/-- from H to H': the world stands, what is not hidden is kept -/
structure Go1 (W : Wd) (σ : L2.St) (H H' : Hp) : Prop where
  ok : Ok W σ H'
  up : Same (hid W.S H) (hid W.S H')
section
variable {W : Wd} {σ : L2.St} {H H' H1 H2 : Hp}
theorem Go1.refl (h : Ok W σ H) : Go1 W σ H H := ⟨h, Same.refl _⟩
theorem Go1.trans (a : Go1 W σ H H1) (b : Go1 W σ H1 H2) : Go1 W σ H H2 := ⟨b.ok, a.up.trans b.up⟩
theorem eq_of_same (e : Same H H') {a : Addr} (h : H a ≠ none) : H' a = H a := by
  cases q : H a with
  | none => exact absurd q h
  | some o => exact e _ _ q
theorem Ok.same (h : Ok W σ H) (e : Same H H') : Ok W σ H' where
  nod := h.nod
  own := h.own
  at_ := fun r m => r.mono (hid_same e) (r.loc (fun a q => eq_of_same e (h.al a (h.own a (mem_fps m q)).1)) (h.at_ r m))
  ms := h.ms
  al := fun a m => by rw [eq_of_same e (h.al a m)]; exact h.al a m
  bt := h.bt.trans (Bt.of e)
  len := h.len
  facts := fun f m => f.mono (hid_same e) (h.facts f m)
  slots := fun i f g => by
    obtain ⟨v, q, z⟩ := h.slots i f g
    exact ⟨v, q, f.mono (hid_same e) z⟩
theorem Ok.go (h : Ok W σ H) (e : Same H H') : Go1 W σ H H' := ⟨h.same e, hid_same e⟩
theorem Ok.new {p : Addr} {o : HO} (h : Ok W σ H) (n : H p = none) : Go1 W σ H (upd H p o) := h.go (Same.new n)
theorem Ok.off {p : Addr} (h : Ok W σ H) (n : H p = none) : p ∉ W.S := fun z => h.al p z n
def RsAt (C : List RS) (S : List Addr) (H : Hp) : Prop := ∀ r, r ∈ C → r.p (hid S H) H
/-- the things C change to C', at their addresses and at new ones (N) -/
theorem Ok.change {C C' R : List RS} {N : List Addr} (h : Ok W σ H) (eL : ∀ r, r ∈ W.L ↔ r ∈ C ∨ r ∈ R) (nR : ∀ r, r ∈ R → ∀ a, a ∈ r.fp → a ∉ fps C) (nodR : (fps (C' ++ R)).Nodup) (b : Bt (fps C) H H')
    (hN : ∀ a, a ∈ N → H a = none ∧ H' a ≠ none) (hC' : ∀ a, a ∈ fps C' → (a ∈ fps C ∨ a ∈ N)) (hal : ∀ a, a ∈ fps C → H' a ≠ none) (hc : RsAt C' (N ++ W.S) H') : Ok { W with S := N ++ W.S, L := C' ++ R } σ H' ∧ Same (hid W.S H) (hid (N ++ W.S) H') := by
  have hCS : ∀ a, a ∈ fps C → a ∈ W.S ∧ (a ∈ W.M ∨ W.H0 a = none) := fun a m => by
    obtain ⟨r, m1, m2⟩ := of_fps m
    exact h.own a (mem_fps ((eL r).mpr (.inl m1)) m2)
  have up : Same (hid W.S H) (hid (N ++ W.S) H') := b.hid (fun a m => (hCS a m).1) fun a m => .inr (hN a m).1
  have h0 : ∀ a, H a = none → W.H0 a = none := fun a n => by
    cases q : W.H0 a with
    | none => rfl
    | some o =>
      by_cases hm : a ∈ W.M
      · exact absurd n (h.al a (h.ms a hm))
      · rw [h.bt a o hm q] at n; cases n
  refine ⟨⟨nodR, fun a m => ?_, fun r m => ?_, fun a m => List.mem_append_right _ (h.ms a m), fun a m => ?_, fun c o n q => ?_, h.len, fun f m => f.mono up (h.facts f m), fun i f g => ?_⟩, up⟩
  · obtain ⟨r, m1, m2⟩ := of_fps m
    rcases List.mem_append.mp m1 with m1 | m1
    · rcases hC' a (mem_fps m1 m2) with q | q
      · exact ⟨List.mem_append_right _ (hCS a q).1, (hCS a q).2⟩
      · exact ⟨List.mem_append_left _ q, .inr (h0 a (hN a q).1)⟩
    · have := h.own a (mem_fps ((eL r).mpr (.inr m1)) m2)
      exact ⟨List.mem_append_right _ this.1, this.2⟩
  · rcases List.mem_append.mp m with m | m
    · exact hc r m
    · refine r.mono up (r.loc (fun a q => ?_) (h.at_ r ((eL r).mpr (.inr m))))
      have al := h.al a (h.own a (mem_fps ((eL r).mpr (.inr m)) q)).1
      cases e : H a with
      | none => exact absurd e al
      | some o => exact b a o (nR r m a q) e
  · rcases List.mem_append.mp m with m | m
    · exact (hN a m).2
    · by_cases q : a ∈ fps C
      · exact hal a q
      · intro z
        cases e : H a with
        | none => exact h.al a m e
        | some o => rw [b a o q e] at z; cases z
  · have q1 := h.bt c o n q
    by_cases hin : c ∈ fps C
    · rcases (hCS c hin).2 with z | z
      · exact absurd z n
      · have q : W.H0 c = some o := q
        rw [z] at q; cases q
    · exact b c o hin q1
  · obtain ⟨v, q, z⟩ := h.slots i f g
    exact ⟨v, q, f.mono up z⟩
end
theorem nodup_app {A B : List RS} : (fps (A ++ B)).Nodup ↔ (fps A).Nodup ∧ (fps B).Nodup ∧ ∀ a, a ∈ fps A → a ∉ fps B := by
  unfold fps
  rw [List.flatMap_append, List.nodup_append]
  exact ⟨fun ⟨h1, h2, h3⟩ => ⟨h1, h2, fun a m1 m2 => h3 a m1 a m2 rfl⟩, fun ⟨h1, h2, h3⟩ => ⟨h1, h2, fun a m1 b m2 e => h3 a m1 (e ▸ m2)⟩⟩
section
variable {W : Wd} {σ : L2.St} {H H' : Hp}
/-- the first things of the world change -/
theorem Ok.change1 {C C' R : List RS} {N : List Addr} (h : Ok W σ H) (eL : W.L = C ++ R) (b : Bt (fps C) H H') (hN : ∀ a, a ∈ N → H a = none ∧ H' a ≠ none) (nodC : (fps C').Nodup) (hC' : ∀ a, a ∈ fps C' → (a ∈ fps C ∨ a ∈ N)) (hal : ∀ a, a ∈ fps C → H' a ≠ none)
    (hc : RsAt C' (N ++ W.S) H') : Ok { W with S := N ++ W.S, L := C' ++ R } σ H' ∧ Same (hid W.S H) (hid (N ++ W.S) H') := by
  have nd := h.nod
  rw [eL] at nd
  obtain ⟨n1, n2, n3⟩ := nodup_app.mp nd
  refine h.change (fun r => by rw [eL, List.mem_append]) (fun r m a q z => n3 a z (mem_fps m q)) (nodup_app.mpr ⟨nodC, n2, fun a m z => ?_⟩) b hN hC' hal hc
  rcases hC' a m with q | q
  · exact n3 a q z
  · have := h.al a (h.own a (by rw [eL]; obtain ⟨r, m1, m2⟩ := of_fps z; exact mem_fps (List.mem_append_right _ m1) m2)).1
    exact this (hN a q).1
/-- a callee changed the things C, and left what they promise -/
theorem Ok.after {C : List RS} (h : Ok W σ H) (hC : ∀ r, r ∈ C → r ∈ W.L) (b : Bt (fps C) H H') (hal : ∀ a, a ∈ fps C → H' a ≠ none) (hc : RsAt C W.S H') : Go1 W σ H H' := by
  have hCS : ∀ a, a ∈ fps C → a ∈ W.S ∧ (a ∈ W.M ∨ W.H0 a = none) := fun a m => by
    obtain ⟨r, m1, m2⟩ := of_fps m
    exact h.own a (mem_fps (hC r m1) m2)
  have up : Same (hid W.S H) (hid W.S H') := b.hid (N := []) (fun a m => (hCS a m).1) (fun a m => nomatch m)
  have disj : ∀ (L : List RS), (fps L).Nodup → ∀ r r' a, r ∈ L → r' ∈ L → a ∈ r.fp → a ∈ r'.fp → r = r' := by
    intro L
    induction L with
    | nil => intro _ r r' a m; cases m
    | cons x L ih =>
      intro nd r r' a m m' q q'
      have nd' : (fps ([x] ++ L)).Nodup := nd
      obtain ⟨_, n2, n3⟩ := nodup_app.mp nd'
      rcases List.mem_cons.mp m with m | m <;> rcases List.mem_cons.mp m' with m' | m'
      · rw [m, m']
      · exact absurd (mem_fps m' q') (n3 a (mem_fps (List.mem_cons_self ..) (m ▸ q)))
      · exact absurd (mem_fps m q) (n3 a (mem_fps (List.mem_cons_self ..) (m' ▸ q')))
      · exact ih n2 r r' a m m' q q'
  refine ⟨⟨h.nod, h.own, fun r m => ?_, h.ms, fun a m => ?_, fun c o n q => ?_, h.len, fun f m => f.mono up (h.facts f m), fun i f g => ?_⟩, up⟩
  · by_cases hin : r ∈ C
    · exact hc r hin
    · refine r.mono up (r.loc (fun a q => ?_) (h.at_ r m))
      have al := h.al a (h.own a (mem_fps m q)).1
      have off : a ∉ fps C := fun z => by
        obtain ⟨r', m1, m2⟩ := of_fps z
        exact hin (disj _ h.nod r r' a m (hC r' m1) q m2 ▸ m1)
      cases e : H a with
      | none => exact absurd e al
      | some o => exact b a o off e
  · by_cases q : a ∈ fps C
    · exact hal a q
    · intro z
      cases e : H a with
      | none => exact h.al a m e
      | some o => rw [b a o q e] at z; cases z
  · have q1 := h.bt c o n q
    by_cases hin : c ∈ fps C
    · rcases (hCS c hin).2 with z | z
      · exact absurd z n
      · have q : W.H0 c = some o := q
        rw [z] at q; cases q
    · exact b c o hin q1
  · obtain ⟨v, q, z⟩ := h.slots i f g
    exact ⟨v, q, f.mono up z⟩
/-- the things in another order -/
theorem Ok.perm {L' : List RS} (h : Ok W σ H) (p : W.L.Perm L') : Ok { W with L := L' } σ H := by
  have pf : (fps W.L).Perm (fps L') := p.flatMap_right RS.fp
  exact ⟨pf.nodup_iff.mp h.nod, fun a m => h.own a (pf.mem_iff.mpr m), fun r m => h.at_ r (p.mem_iff.mpr m), h.ms, h.al, h.bt, h.len, h.facts, h.slots⟩
/-- a cell is written -/
theorem Ok.write {a : Addr} {φ ψ : CF} {R : List RS} {o : HO} (h : Ok W σ H) (e : W.L = cell a φ :: R) (hp : ψ.p (hid W.S H) o) : Go1 { W with L := cell a ψ :: R } σ H (upd H a o) := by
  have hS : a ∈ W.S := (h.own a (by rw [e]; exact mem_fps (List.mem_cons_self ..) (List.mem_cons_self ..))).1
  have eq : hid W.S (upd H a o) = hid W.S H := hid_upd hS
  have fa : fps [cell a φ] = [a] := rfl
  obtain ⟨o2, _⟩ := h.change1 (C := [cell a φ]) (C' := [cell a ψ]) (R := R) (N := []) (H' := upd H a o) e (fun b u n q => by rw [upd_ne (fun z => n (by rw [fa, z]; exact List.mem_cons_self ..))]; exact q) (fun b m => nomatch m) (by show [a].Nodup; simp) (fun b m => .inl m) (fun b m => by
    obtain rfl : b = a := by simpa [fa] using m
    rw [upd_same]; simp) (fun r m => by
    obtain rfl : r = cell a ψ := by simpa using m
    exact ⟨o, upd_same, by show ψ.p (hid W.S (upd H a o)) o; rw [eq]; exact hp⟩)
  exact ⟨o2, by show Same (hid W.S H) (hid W.S (upd H a o)); rw [eq]; exact Same.refl _⟩
/-- a new cell -/
theorem Ok.cell {p : Addr} {ψ : CF} {o : HO} (h : Ok W σ H) (n : H p = none) (hp : ψ.p (hid W.S H) o) : Ok { W with S := p :: W.S, L := Cs.cell p ψ :: W.L } σ (upd H p o) ∧ Same (hid W.S H) (hid (p :: W.S) (upd H p o)) :=
  have up : Same (hid W.S H) (hid (p :: W.S) (upd H p o)) := Bt.hid (M := []) (N := [p]) (Bt.of (Same.new n)) (fun a m => nomatch m) (fun a m => .inr (by rw [List.mem_singleton.mp m]; exact n))
  h.change1 (C := []) (C' := [Cs.cell p ψ]) (R := W.L) (N := [p]) rfl (Bt.of (Same.new n)) (fun a m => by
    obtain rfl : a = p := by simpa using m
    exact ⟨n, by rw [upd_same]; simp⟩) (by show [p].Nodup; simp) (fun a m => .inr m) (fun a m => nomatch m) (fun r m => by
    obtain rfl : r = Cs.cell p ψ := by simpa using m
    exact ⟨o, upd_same, ψ.mono up hp⟩)
end
end Cs
set_option maxHeartbeats 4000000
namespace Cs
open PySem PySem.Spec PyProof.Rows L2
/-! ### what readings come to -/
def Fits (H : Hp) : List SF → List V → Prop
  | [], [] => True
  | f :: fs, v :: vs => f.p H v ∧ Fits H fs vs
  | _, _ => False
theorem Fits.mono {H H' : Hp} (e : Same H H') : ∀ {fs : List SF} {vs : List V}, Fits H fs vs → Fits H' fs vs
  | [], [], _ => trivial
  | _ :: _, _ :: _, ⟨a, b⟩ => ⟨SF.mono _ e a, Fits.mono e b⟩
  | [], _ :: _, h => h.elim
  | _ :: _, [], h => h.elim
theorem Fits.length {H : Hp} : ∀ {fs : List SF} {vs : List V}, Fits H fs vs → vs.length = fs.length
  | [], [], _ => rfl
  | _ :: _, _ :: _, ⟨_, b⟩ => by simp [Fits.length b]
  | [], _ :: _, h => h.elim
  | _ :: _, [], h => h.elim
theorem Fits.get {H : Hp} : ∀ {fs : List SF} {vs : List V} {i : Nat} {f : SF}, Fits H fs vs → fs[i]? = some f → ∃ v, vs[i]? = some v ∧ f.p H v
  | [], [], _, _, _, q => by simp at q
  | _ :: _, v :: _, 0, f, ⟨a, _⟩, q => by simp at q; subst q; exact ⟨v, rfl, a⟩
  | _ :: _, _ :: _, i + 1, f, ⟨_, b⟩, q => by
    obtain ⟨v, h1, h2⟩ := Fits.get b (i := i) (f := f) (by simpa using q)
    exact ⟨v, by simpa using h1, h2⟩
  | [], _ :: _, _, _, h, _ => h.elim
  | _ :: _, [], _, _, h, _ => h.elim
/-- the values vs are the xs -/
def All2 {α : Type} (r : V → α → Prop) : List V → List α → Prop
  | [], [] => True
  | v :: vs, x :: xs => r v x ∧ All2 r vs xs
  | _, _ => False
section
variable {α β : Type} {r q : V → α → Prop}
theorem All2.mono (e : ∀ v x, r v x → q v x) : ∀ {vs : List V} {xs : List α}, All2 r vs xs → All2 q vs xs
  | [], [], _ => trivial
  | _ :: _, _ :: _, ⟨a, b⟩ => ⟨e _ _ a, All2.mono e b⟩
  | [], _ :: _, h => h.elim
  | _ :: _, [], h => h.elim
theorem All2.length : ∀ {vs : List V} {xs : List α}, All2 r vs xs → vs.length = xs.length
  | [], [], _ => rfl
  | _ :: _, _ :: _, ⟨_, b⟩ => by simp [All2.length b]
  | [], _ :: _, h => h.elim
  | _ :: _, [], h => h.elim
theorem All2.get : ∀ {vs : List V} {xs : List α} {i : Nat} {x : α}, All2 r vs xs → xs[i]? = some x → ∃ v, vs[i]? = some v ∧ r v x
  | [], [], _, _, _, q => by simp at q
  | v :: _, _ :: _, 0, x, ⟨a, _⟩, q => by simp at q; subst q; exact ⟨v, rfl, a⟩
  | _ :: _, _ :: _, i + 1, x, ⟨_, b⟩, q => by
    obtain ⟨v, h1, h2⟩ := All2.get b (i := i) (x := x) (by simpa using q)
    exact ⟨v, by simpa using h1, h2⟩
  | [], _ :: _, _, _, h, _ => h.elim
  | _ :: _, [], _, _, h, _ => h.elim
theorem All2.getV : ∀ {vs : List V} {xs : List α} {i : Nat} {v : V}, All2 r vs xs → vs[i]? = some v → ∃ x, xs[i]? = some x ∧ r v x
  | [], [], _, _, _, q => by simp at q
  | _ :: _, x :: _, 0, v, ⟨a, _⟩, q => by simp at q; subst q; exact ⟨x, rfl, a⟩
  | _ :: _, _ :: _, i + 1, v, ⟨_, b⟩, q => by
    obtain ⟨x, h1, h2⟩ := All2.getV b (i := i) (v := v) (by simpa using q)
    exact ⟨x, by simpa using h1, h2⟩
  | [], _ :: _, _, _, h, _ => h.elim
  | _ :: _, [], _, _, h, _ => h.elim
theorem All2.app : ∀ {vs ws : List V} {xs ys : List α}, All2 r vs xs → All2 r ws ys → All2 r (vs ++ ws) (xs ++ ys)
  | [], _, [], _, _, g => g
  | _ :: _, _, _ :: _, _, ⟨a, b⟩, g => ⟨a, All2.app b g⟩
  | [], _, _ :: _, _, h, _ => h.elim
  | _ :: _, _, [], _, h, _ => h.elim
theorem All2.take : ∀ {vs : List V} {xs : List α} (n : Nat), All2 r vs xs → All2 r (vs.take n) (xs.take n)
  | _, _, 0, _ => trivial
  | [], [], _ + 1, _ => trivial
  | _ :: _, _ :: _, n + 1, ⟨a, b⟩ => ⟨a, All2.take n b⟩
  | [], _ :: _, _ + 1, h => h.elim
  | _ :: _, [], _ + 1, h => h.elim
theorem All2.drop : ∀ {vs : List V} {xs : List α} (n : Nat), All2 r vs xs → All2 r (vs.drop n) (xs.drop n)
  | _, _, 0, h => h
  | [], [], _ + 1, _ => trivial
  | _ :: _, _ :: _, n + 1, ⟨_, b⟩ => All2.drop n b
  | [], _ :: _, _ + 1, h => h.elim
  | _ :: _, [], _ + 1, h => h.elim
theorem All2.set {v : V} {x : α} (h : r v x) : ∀ {vs : List V} {xs : List α} (i : Nat), All2 r vs xs → All2 r (vs.set i v) (xs.set i x)
  | [], [], _, _ => trivial
  | _ :: _, _ :: _, 0, ⟨_, b⟩ => ⟨h, b⟩
  | _ :: _, _ :: _, i + 1, ⟨a, b⟩ => ⟨a, All2.set h i b⟩
  | [], _ :: _, _, h => h.elim
  | _ :: _, [], _, h => h.elim
theorem All2.ofMap (f : α → V) (h : ∀ x, r (f x) x) : ∀ (xs : List α), All2 r (xs.map f) xs
  | [] => trivial
  | x :: xs => ⟨h x, All2.ofMap f h xs⟩
theorem All2.toMap (f : α → V) (h : ∀ v x, r v x → v = f x) : ∀ {vs : List V} {xs : List α}, All2 r vs xs → vs = xs.map f
  | [], [], _ => rfl
  | _ :: _, _ :: _, ⟨a, b⟩ => by rw [h _ _ a, All2.toMap f h b]; rfl
  | [], _ :: _, h => h.elim
  | _ :: _, [], h => h.elim
end
/-! ### kinds of values -/
def tV : Ty V := ⟨fun _ v x => v = x, fun _ h => h⟩
def tInt : Ty Int := ⟨fun _ v x => v = .int x, fun _ h => h⟩
def tBl : Ty Bool := ⟨fun _ v x => v = .bl x, fun _ h => h⟩
def tSt : Ty Str := ⟨fun _ v x => v = .str x, fun _ h => h⟩
def tRf : Ty Addr := ⟨fun _ v x => v = .ref x, fun _ h => h⟩
def tNn : Ty Unit := ⟨fun _ v _ => v = .non, fun _ h => h⟩
theorem sqT_mono {K : PySem.W.Frag} {H H' : Hp} {a : Addr} {xs : List V} (e : Same H H') (h : SqT K H a xs) : SqT K H' a xs := by
  rcases h with (h | ⟨o, h⟩) | h
  · exact .inl (.inl (e _ _ h))
  · exact .inl (.inr ⟨o, e _ _ h⟩)
  · exact .inr h
def tFr (K : PySem.W.Frag) : Ty Rat := ⟨fun H v x => ∃ p, v = .ref p ∧ SqT K H p [.int x.num, .int (x.den : Int)], fun e ⟨p, h, g⟩ => ⟨p, h, sqT_mono e g⟩⟩
def tPr (K : PySem.W.Frag) {α β : Type} (t : Ty α) (u : Ty β) : Ty (α × β) := ⟨fun H v x => ∃ p a b, v = .ref p ∧ SqT K H p [a, b] ∧ t.r H a x.1 ∧ u.r H b x.2, fun e ⟨p, a, b, h, g, h1, h2⟩ => ⟨p, a, b, h, sqT_mono e g, t.mono e h1, u.mono e h2⟩⟩
/-- a tuple of such and such -/
def tTp (K : PySem.W.Frag) (α : Type) (fs : α → List SF) : Ty α := ⟨fun H v x => ∃ p vs, v = .ref p ∧ SqT K H p vs ∧ Fits H (fs x) vs, fun e ⟨p, vs, h, g, h1⟩ => ⟨p, vs, h, sqT_mono e g, h1.mono e⟩⟩
def tLs (K : PySem.W.Frag) {α : Type} (t : Ty α) : Ty (List α) := ⟨fun H v xs => ∃ p vs, v = .ref p ∧ H p = some (.lst vs) ∧ All2 (t.r H) vs xs, fun e ⟨p, vs, h, g, h1⟩ => ⟨p, vs, h, e _ _ g, All2.mono (fun _ _ => t.mono e) h1⟩⟩
def tSc (K : PySem.W.Frag) : Ty (List Int) := ⟨fun H v xs => ∃ p, v = .ref p ∧ SqL K H p (xs.map V.int), fun e ⟨p, h, g⟩ => ⟨p, h, e.seq g⟩⟩
def cLs {α : Type} (t : Ty α) (xs : List α) : CF := ⟨fun H o => ∃ vs, o = .lst vs ∧ All2 (t.r H) vs xs, fun e ⟨vs, h, g⟩ => ⟨vs, h, All2.mono (fun _ _ => t.mono e) g⟩⟩
/-! ### the judgements -/
def Ev {α : Type} (W : Wd) (te : TE) (t : Ty α) (x : α) : Prop := ∀ σ H, Ok W σ H → ∀ Q : VK, (∀ v H', Go1 W σ H H' → t.r (hid W.S H') v x → Q v H') → te σ H Q
def Et (W : Wd) (tt : TT) (b : Bool) : Prop := ∀ σ H, Ok W σ H → ∀ Q : Bool → Hp → Prop, (∀ H', Go1 W σ H H' → Q b H') → tt σ H Q
def Ea (W : Wd) (ta : TA) (fs : List SF) : Prop := ∀ σ H, Ok W σ H → ∀ Q : List V → Hp → Prop, (∀ vs H', Go1 W σ H H' → Fits (hid W.S H') fs vs → Q vs H') → ta σ H Q
/-- as Ev, of one of several values -/
def Evx {α : Type} (W : Wd) (te : TE) (t : Ty α) (P : α → Prop) : Prop := ∀ σ H, Ok W σ H → ∀ Q : VK, (∀ v x H', P x → Go1 W σ H H' → t.r (hid W.S H') v x → Q v H') → te σ H Q
theorem Ev.x {α : Type} {W : Wd} {te : TE} {t : Ty α} {x : α} {P : α → Prop} (h : Ev W te t x) (p : P x) : Evx W te t P := fun σ H o Q q => h σ H o Q fun v H' g r => q v x H' p g r
theorem Evx.ev {α : Type} {W : Wd} {te : TE} {t : Ty α} {x : α} (h : Evx W te t (fun y => y = x)) : Ev W te t x := fun σ H o Q q => h σ H o Q fun v y H' p g r => q v H' g (p ▸ r)
/-- a def that leaves all as it was but the things C, which keep what they promise -/
def spN {α β : Type} (C : α → List RS) (A : α → List SF) (w : Ty β) (pre : α → Prop) (post : α → β → Prop) : Sp := fun vs H Q _ => ∃ (S : List Addr) (x : α), (∀ a ∈ S, H a ≠ none) ∧ (fps (C x)).Nodup ∧ (∀ a, a ∈ fps (C x) → a ∈ S) ∧ RsAt (C x) S H ∧
  Fits (hid S H) (A x) vs ∧ pre x ∧ ∀ v y H', post x y → Bt (fps (C x)) H H' → (∀ a, a ∈ fps (C x) → H' a ≠ none) → RsAt (C x) S H' → w.r (hid S H') v y → Q v H'
def spP {α β : Type} (A : α → List SF) (w : Ty β) (pre : α → Prop) (f : α → β) : Sp := spN (fun _ => []) A w pre (fun x y => y = f x)
section
variable {α β γ : Type} {W : Wd} {K : PySem.W.Frag} {ta tb tc : TE} {t : Ty α} {u : Ty β} {x : α} {y : β} {tt uu : TT} {ar : TA} {fs : List SF} {i j : Int} {E : XK}
theorem ev_is {x' : α} (h : Ev W ta t x) (e : x = x') : Ev W ta t x' := e ▸ h
theorem ev_to {u : Ty β} {y : β} (h : Ev W ta t x) (e : ∀ H v, t.r H v x → u.r H v y) : Ev W ta u y := fun σ H o Q q => h σ H o Q fun v H' g r => q v H' g (e _ _ r)
theorem ev_var {n : Nat} (h : W.G[n]? = some (some (t.is x))) : Ev W (tVar n) t x := fun σ H o Q q => by
  obtain ⟨v, h1, h2⟩ := o.slots n _ h
  exact ⟨v, h1, q v H (Go1.refl o) h2⟩
theorem ev_c {v : V} : Ev W (tC v) tV v := fun σ H o Q q => q v H (Go1.refl o) rfl
theorem ev_int : Ev W (tC (.int i)) tInt i := fun σ H o Q q => q _ H (Go1.refl o) rfl
theorem ev_str {z : Str} : Ev W (tC (.str z)) tSt z := fun σ H o Q q => q _ H (Go1.refl o) rfl
theorem ev_bl {b : Bool} : Ev W (tC (.bl b)) tBl b := fun σ H o Q q => q _ H (Go1.refl o) rfl
theorem ev_non : Ev W (tC .non) tNn () := fun σ H o Q q => q _ H (Go1.refl o) rfl
/-- a constant of the written part -/
theorem ev_k {a : Addr} (h : ∀ H, t.r H (.ref a) x) : Ev W (tC (.ref a)) t x := fun σ H o Q q => q _ H (Go1.refl o) (h _)
theorem ev_add (ha : Ev W ta tInt i) (hb : Ev W tb tInt j) : Ev W (tOp (rI0 fun i j => .int (i + j)) ta tb) tInt (i + j) := fun σ H o Q q =>
  ha σ H o _ fun v H1 g1 r1 => hb σ H1 g1.ok _ fun v2 H2 g2 r2 => ⟨i, j, r1, r2, q _ H2 (g1.trans g2) rfl⟩
theorem ev_sub (ha : Ev W ta tInt i) (hb : Ev W tb tInt j) : Ev W (tOp (rI0 fun i j => .int (i - j)) ta tb) tInt (i - j) := fun σ H o Q q =>
  ha σ H o _ fun v H1 g1 r1 => hb σ H1 g1.ok _ fun v2 H2 g2 r2 => ⟨i, j, r1, r2, q _ H2 (g1.trans g2) rfl⟩
theorem ev_mul (ha : Ev W ta tInt i) (hb : Ev W tb tInt j) (k : IntMulOk i j) : Ev W (tOp (rI IntMulOk fun i j => .int (i * j)) ta tb) tInt (i * j) := fun σ H o Q q =>
  ha σ H o _ fun v H1 g1 r1 => hb σ H1 g1.ok _ fun v2 H2 g2 r2 => ⟨i, j, r1, r2, k, q _ H2 (g1.trans g2) rfl⟩
theorem ev_fdiv (ha : Ev W ta tInt i) (hb : Ev W tb tInt j) (k : CDivA i j) : Ev W (tOp (rI CDivA fun i j => .int (i.fdiv j)) ta tb) tInt (i.fdiv j) := fun σ H o Q q =>
  ha σ H o _ fun v H1 g1 r1 => hb σ H1 g1.ok _ fun v2 H2 g2 r2 => ⟨i, j, r1, r2, k, q _ H2 (g1.trans g2) rfl⟩
theorem ev_mod (ha : Ev W ta tInt i) (hb : Ev W tb tInt j) (k : 0 < j) : Ev W (tOp (rI (fun _ j => 0 < j) fun i j => .int (i % j)) ta tb) tInt (i % j) := fun σ H o Q q =>
  ha σ H o _ fun v H1 g1 r1 => hb σ H1 g1.ok _ fun v2 H2 g2 r2 => ⟨i, j, r1, r2, k, q _ H2 (g1.trans g2) rfl⟩
theorem ev_neg (ha : Ev W ta tInt i) : Ev W (tUn (rU fun i => .int (-i)) ta) tInt (-i) := fun σ H o Q q => ha σ H o _ fun v H1 g1 r1 => ⟨i, r1, q _ H1 g1 rfl⟩
/-- comparisons of ints, as values and as tests -/
theorem ev_cmp {g : Int → Int → Bool} (ha : Ev W ta tInt i) (hb : Ev W tb tInt j) : Ev W (tOp (rI0 fun i j => .bl (g i j)) ta tb) tBl (g i j) := fun σ H o Q q =>
  ha σ H o _ fun v H1 g1 r1 => hb σ H1 g1.ok _ fun v2 H2 g2 r2 => ⟨i, j, r1, r2, q _ H2 (g1.trans g2) rfl⟩
theorem et_cmp {g : Int → Int → Bool} (ha : Ev W ta tInt i) (hb : Ev W tb tInt j) : Et W (tTest (tOp (rI0 fun i j => .bl (g i j)) ta tb)) (g i j) := fun σ H o Q q =>
  ha σ H o _ fun v H1 g1 r1 => hb σ H1 g1.ok _ fun v2 H2 g2 r2 => ⟨i, j, r1, r2, _, rfl, q H2 (g1.trans g2)⟩
theorem et_of {b : Bool} (ha : Ev W ta tBl b) : Et W (tTest ta) b := fun σ H o Q q => ha σ H o _ fun v H1 g1 r1 => ⟨b, r1, q H1 g1⟩
theorem et_B {b : Bool} (ha : Ev W ta tBl b) : Et W (tB ta) b := fun σ H o Q q => ha σ H o _ fun v H1 g1 r1 => ⟨b, r1, q H1 g1⟩
theorem et_is {b c : Bool} (h : Et W tt b) (e : b = c) : Et W tt c := e ▸ h
theorem et_not {b : Bool} (h : Et W tt b) : Et W (tNot tt) (!b) := fun σ H o Q q => h σ H o _ fun H1 g1 => q H1 g1
theorem et_and {b c : Bool} (h : Et W tt b) (g : b = true → Et W uu c) : Et W (tAnd tt uu) (b && c) := fun σ H o Q q => h σ H o _ fun H1 g1 => by
  cases b with
  | true =>
    show uu σ H1 Q
    exact g rfl σ H1 g1.ok Q fun H2 g2 => q H2 (g1.trans g2)
  | false => exact q H1 g1
theorem et_or {b c : Bool} (h : Et W tt b) (g : b = false → Et W uu c) : Et W (tOr tt uu) (b || c) := fun σ H o Q q => h σ H o _ fun H1 g1 => by
  cases b with
  | true => exact q H1 g1
  | false =>
    show uu σ H1 Q
    exact g rfl σ H1 g1.ok Q fun H2 g2 => q H2 (g1.trans g2)
theorem ev_andV {b c : Bool} (h : Ev W ta tBl b) (g : b = true → Ev W tb tBl c) : Ev W (tAndV ta tb) tBl (b && c) := fun σ H o Q q => h σ H o _ fun v H1 g1 r1 => ⟨b, r1, by
  cases b with
  | true =>
    show tb σ H1 Q
    exact g rfl σ H1 g1.ok Q fun v H2 g2 r => q v H2 (g1.trans g2) r
  | false => exact q _ H1 g1 rfl⟩
theorem ev_orV {b c : Bool} (h : Ev W ta tBl b) (g : b = false → Ev W tb tBl c) : Ev W (tOrV ta tb) tBl (b || c) := fun σ H o Q q => h σ H o _ fun v H1 g1 r1 => ⟨b, r1, by
  cases b with
  | true => exact q _ H1 g1 rfl
  | false =>
    show tb σ H1 Q
    exact g rfl σ H1 g1.ok Q fun v H2 g2 r => q v H2 (g1.trans g2) r⟩
theorem ev_notV {b : Bool} (h : Ev W ta tBl b) : Ev W (tNotV ta) tBl (!b) := fun σ H o Q q => h σ H o _ fun v H1 g1 r1 => ⟨b, r1, q _ H1 g1 rfl⟩
theorem ev_if {b : Bool} (h : Et W tt b) (ha : b = true → Ev W ta t x) (hb : b = false → Ev W tb t x) : Ev W (tIf tt ta tb) t x := fun σ H o Q q => h σ H o _ fun H1 g1 => by
  cases b with
  | true =>
    show ta σ H1 Q
    exact ha rfl σ H1 g1.ok Q fun v H2 g2 r => q v H2 (g1.trans g2) r
  | false =>
    show tb σ H1 Q
    exact hb rfl σ H1 g1.ok Q fun v H2 g2 r => q v H2 (g1.trans g2) r
theorem ea_nil : Ea W tNil [] := fun σ H o Q q => q [] H (Go1.refl o) trivial
theorem ea_cons (ha : Ev W ta t x) (hr : Ea W ar fs) : Ea W (tCons ta ar) (t.is x :: fs) := fun σ H o Q q =>
  ha σ H o _ fun v H1 g1 r1 => hr σ H1 g1.ok _ fun vs H2 g2 r2 => q (v :: vs) H2 (g1.trans g2) ⟨t.mono g2.up r1, r2⟩
/-- a written tuple -/
theorem ev_tup {fs' : α → List SF} (h : Ea W ar fs) (e : fs' x = fs) (hl : fs.length ≤ sizeLine := by decide) : Ev W (tTup ar) (tTp K α fs') x := fun σ H o Q q =>
  h σ H o _ fun vs H1 g1 r1 => ⟨by rw [r1.length]; exact hl, fun p np => q _ _ (g1.trans (g1.ok.new np)) ⟨p, vs, rfl, SqT.of (by rw [hid_of (g1.ok.off np)]; exact upd_same), by rw [e]; exact r1.mono (g1.ok.new np).up⟩⟩
theorem ev_pr (ha : Ev W ta t x) (hb : Ev W tb u y) : Ev W (tTup (tCons ta (tCons tb tNil))) (tPr K t u) (x, y) := fun σ H o Q q =>
  ha σ H o _ fun v H1 g1 r1 => hb σ H1 g1.ok _ fun v2 H2 g2 r2 => ⟨by show 2 ≤ sizeLine; decide, fun p np => q _ _ ((g1.trans g2).trans (g2.ok.new np))
    ⟨p, v, v2, rfl, SqT.of (by rw [hid_of (g2.ok.off np)]; exact upd_same), t.mono (g2.up.trans (g2.ok.new np).up) r1, u.mono (g2.ok.new np).up r2⟩⟩
theorem ev_fst (h : Ev W ta (tPr K t u) (x, y)) : Ev W (tOp (rIxT K) ta (tC (.int 0))) t x := fun σ H o Q q =>
  h σ H o _ fun v H1 g1 ⟨p, a, b, e, s, r1, r2⟩ => ⟨p, [a, b], 0, a, e, rfl, sqT_mono hid_sub s, rfl, q a H1 g1 r1⟩
theorem ev_snd (h : Ev W ta (tPr K t u) (x, y)) : Ev W (tOp (rIxT K) ta (tC (.int 1))) u y := fun σ H o Q q =>
  h σ H o _ fun v H1 g1 ⟨p, a, b, e, s, r1, r2⟩ => ⟨p, [a, b], 1, b, e, rfl, sqT_mono hid_sub s, rfl, q b H1 g1 r2⟩
theorem ev_num {r : Rat} (h : Ev W ta (tFr K) r) : Ev W (tOp (rIxT K) ta (tC (.int 0))) tInt r.num := fun σ H o Q q =>
  h σ H o _ fun v H1 g1 ⟨p, e, s⟩ => ⟨p, _, 0, _, e, rfl, sqT_mono hid_sub s, rfl, q _ H1 g1 rfl⟩
theorem ev_den {r : Rat} (h : Ev W ta (tFr K) r) : Ev W (tOp (rIxT K) ta (tC (.int 1))) tInt (r.den : Int) := fun σ H o Q q =>
  h σ H o _ fun v H1 g1 ⟨p, e, s⟩ => ⟨p, _, 1, _, e, rfl, sqT_mono hid_sub s, rfl, q _ H1 g1 rfl⟩
/-- an item of a tuple -/
theorem ev_item {fs' : α → List SF} {n : Nat} {u : Ty β} {y : β} (h : Ev W ta (tTp K α fs') x) (e : (fs' x)[n]? = some (u.is y)) : Ev W (tOp (rIxT K) ta (tC (.int (n : Int)))) u y := fun σ H o Q q =>
  h σ H o _ fun v H1 g1 ⟨p, vs, ev, s, ft⟩ => by
    obtain ⟨z, hz, rz⟩ := ft.get e
    exact ⟨p, vs, n, z, ev, rfl, sqT_mono hid_sub s, atI_nat hz, q z H1 g1 rz⟩
/-- a fraction written as a pair -/
theorem ev_frac {p q : Int} {r : Rat} (ha : Ev W ta tInt p) (hb : Ev W tb tInt q) (hp : r.num = p) (hq : (r.den : Int) = q) : Ev W (tTup (tCons ta (tCons tb tNil))) (tFr K) r := fun σ H o Q k =>
  ha σ H o _ fun v H1 g1 r1 => hb σ H1 g1.ok _ fun v2 H2 g2 r2 => ⟨by show 2 ≤ sizeLine; decide, fun p np => k _ _ ((g1.trans g2).trans (g2.ok.new np)) ⟨p, rfl, SqT.of (by
    rw [hid_of (g2.ok.off np), upd_same, hp, hq]
    cases r1; cases r2; rfl)⟩⟩
/-- a list's item by its place -/
theorem ev_ixL {xs : List α} {n : Int} {t : Ty α} (h : Ev W ta (tLs K t) xs) (hb : Ev W tb tInt n) (e : atI xs n = some x) : Ev W (tOp (rIxL K) ta tb) t x := fun σ H o Q q =>
  h σ H o _ fun v H1 g1 r1 => hb σ H1 g1.ok _ fun v2 H2 g2 r2 => by
    obtain ⟨p, vs, ev, s, al⟩ := (tLs K t).mono g2.up r1
    have : ∃ z, atI vs n = some z ∧ t.r (hid W.S H2) z x := by
      unfold atI at e ⊢
      rw [al.length]
      cases c : ixN xs.length n with
      | none => rw [c] at e; cases e
      | some k =>
        rw [c] at e
        exact al.get e
    obtain ⟨z, hz, rz⟩ := this
    exact ⟨p, vs, n, z, ev, r2, (SqL.of (hid_sub _ _ s)), hz, q z H2 (g1.trans g2) rz⟩
/-- len of a list -/
theorem ev_len {xs : List α} {t : Ty α} (h : Ev W ta (tLs K t) xs) : Ev W (tCB (fun xs H Q => ∃ p ys, xs = [.ref p] ∧ (SqL K H p ys ∨ SqT K H p ys) ∧ Q (.int ys.length) H) (tCons ta tNil)) tInt (xs.length : Int) := fun σ H o Q q =>
  h σ H o _ fun v H1 g1 ⟨p, vs, ev, s, al⟩ => ⟨p, vs, by rw [ev], .inl ((SqL.of (hid_sub _ _ s))), q _ H1 g1 (by rw [al.length]; rfl)⟩
theorem ev_lenS {z : Str} (h : Ev W ta tSt z) (hl : z.length ≤ sizeLine) : Ev W (tCB (fun xs H Q => ∃ z : Str, xs = [.str z] ∧ z.length ≤ sizeLine ∧ Q (.int z.length) H) (tCons ta tNil)) tInt (z.length : Int) := fun σ H o Q q =>
  h σ H o _ fun v H1 g1 e => ⟨z, by rw [show v = .str z from e], hl, q _ H1 g1 rfl⟩
/-- list(xs) -/
theorem ev_list {xs : List α} {t : Ty α} (h : Ev W ta (tLs K t) xs) : Ev W (tCB (fun xs H Q => ∃ p ys, xs = [.ref p] ∧ (SqL K H p ys ∨ SqT K H p ys) ∧ ∀ l, H l = none → Q (.ref l) (upd H l (.lst ys))) (tCons ta tNil)) (tLs K t) xs := fun σ H o Q q =>
  h σ H o _ fun v H1 g1 ⟨p, vs, ev, s, al⟩ => ⟨p, vs, by rw [ev], .inl ((SqL.of (hid_sub _ _ s))), fun l nl => q _ _ (g1.trans (g1.ok.new nl)) ⟨l, vs, rfl, (by rw [hid_of (g1.ok.off nl)]; exact upd_same), All2.mono (fun _ _ => t.mono (g1.ok.new nl).up) al⟩⟩
theorem ev_abs (h : Ev W ta tInt i) : Ev W (tCB (fun xs H Q => ∃ i, xs = [.int i] ∧ Q (.int (if i < 0 then -i else i)) H) (tCons ta tNil)) tInt (if i < 0 then -i else i) := fun σ H o Q q =>
  h σ H o _ fun v H1 g1 e => ⟨i, by rw [show v = .int i from e], q _ H1 g1 rfl⟩
theorem ev_int1 (h : Ev W ta tInt i) : Ev W (tCB (fun xs H Q => (∃ i, xs = [.int i] ∧ Q (.int i) H) ∨ ∃ k, xs = [.bl k] ∧ Q (.int (if k then 1 else 0)) H) (tCons ta tNil)) tInt i := fun σ H o Q q =>
  h σ H o _ fun v H1 g1 e => .inl ⟨i, by rw [show v = .int i from e], q _ H1 g1 rfl⟩
theorem ev_strI (h : Ev W ta tInt i) (hi : i.natAbs.log2 < 1920) : Ev W (tCB (fun xs H Q => ∃ i : Int, xs = [.int i] ∧ i.natAbs.log2 < 1920 ∧ Q (.str (toString i)) H) (tCons ta tNil)) tSt (Str.ofString (toString i)) := fun σ H o Q q =>
  h σ H o _ fun v H1 g1 e => ⟨i, by rw [show v = .int i from e], hi, q _ H1 g1 rfl⟩
/-- a call of a def -/
theorem evx_call {C : γ → List RS} {A : γ → List SF} {w : Ty β} {pre : γ → Prop} {post : γ → β → Prop} {z : γ} (h : Ea W ar (A z)) (hp : pre z) (hC : (C z).Sublist W.L := by first | exact List.nil_sublist _ | exact List.Sublist.refl _ | exact List.singleton_sublist.mpr (by simp) | simp) :
    Evx W (tCall (spN C A w pre post) [] E ar) w (post z) := fun σ H o Q q => h σ H o _ fun vs H1 g1 r1 => by
  have sub : ∀ a, a ∈ fps (C z) → a ∈ W.S := fun a m => by
    obtain ⟨r, m1, m2⟩ := of_fps m
    exact (g1.ok.own a (mem_fps (hC.subset m1) m2)).1
  refine ⟨W.S, z, g1.ok.al, ?_, sub, fun r m => g1.ok.at_ r (hC.subset m), by rw [List.append_nil]; exact r1, hp, fun v y H2 py b al c r => ?_⟩
  · exact (fps_sub hC).nodup g1.ok.nod
  · exact q v y H2 py (g1.trans (g1.ok.after (fun r m => hC.subset m) b al c)) r
theorem ev_call {A : γ → List SF} {w : Ty β} {pre : γ → Prop} {f : γ → β} {z : γ} (h : Ea W ar (A z)) (hp : pre z) : Ev W (tCall (spP A w pre f) [] E ar) w (f z) := (evx_call h hp).ev
end
end Cs
set_option maxHeartbeats 4000000
namespace Cs
open PySem PySem.Spec PyProof.Rows L2
/-! ### statements -/
def Go (W : Wd) (ts : TS) (D : Ends) : Prop := ∀ σ H, Ok W σ H → ts D σ H
def Wd.at (W : Wd) (i : Nat) (f : SF) : Wd := { W with G := W.G.set i (some f) }
def Wd.no (W : Wd) (i : Nat) : Wd := { W with G := W.G.set i none }
/-- what holds in W holds in W' -/
def Wk (W W' : Wd) : Prop := ∀ σ H, Ok W σ H → Ok W' σ H
theorem Wk.refl {W : Wd} : Wk W W := fun _ _ h => h
theorem Wk.trans {W W1 W2 : Wd} (a : Wk W W1) (b : Wk W1 W2) : Wk W W2 := fun σ H h => b σ H (a σ H h)
/-- slots and facts are forgotten -/
theorem Wk.of {H0 : Hp} {M S : List Addr} {L : List RS} {F F' : List FF} {G G' : List (Option SF)} (hl : G.length = G'.length) (h : ∀ (i : Nat) (f : SF), G'[i]? = some (some f) → G[i]? = some (some f)) (hF : ∀ f, f ∈ F' → f ∈ F) : Wk ⟨H0, M, S, L, F, G⟩ ⟨H0, M, S, L, F', G'⟩ := fun σ H o =>
  ⟨o.nod, o.own, o.at_, o.ms, o.al, o.bt, o.len.trans hl, fun f m => o.facts f (hF f m), fun i f g => o.slots i f (h i f g)⟩
section
variable {α β γ : Type} {W W' : Wd} {K : PySem.W.Frag} {ta tb tc : TE} {t : Ty α} {u : Ty β} {x : α} {y : β} {tt uu : TT} {ar : TA} {fs : List SF} {ts us : TS} {D : Ends} {σ : L2.St} {H : Hp} {i : Nat}
theorem go_wk (w : Wk W W') (h : Go W' ts D) : Go W ts D := fun σ H o => h σ H (w σ H o)
theorem ev_wk (w : Wk W W') (up : W.S = W'.S) (hb : Wk W' W) (h : Ev W' ta t x) : Ev W ta t x := fun σ H o Q q => h σ H (w σ H o) Q fun v H' g r => q v H' ⟨hb _ _ g.ok, by rw [up]; exact g.up⟩ (by rw [up]; exact r)
theorem Ok.put {v : V} {f : SF} (o : Ok W σ H) (h : f.p (hid W.S H) v) : Ok (W.at i f) (σ.set i (some v)) H :=
  ⟨o.nod, o.own, o.at_, o.ms, o.al, o.bt, by show (σ.set i (some v)).length = (W.G.set i (some f)).length; rw [List.length_set, List.length_set]; exact o.len, o.facts, fun j g q => by
    have q : (W.G.set i (some f))[j]? = some (some g) := q
    by_cases e : i = j
    · subst e
      rw [List.getElem?_set] at q
      by_cases l : i < W.G.length
      · rw [if_pos rfl, if_pos l] at q
        obtain rfl : f = g := Option.some.inj (Option.some.inj q)
        exact ⟨v, by rw [List.getElem?_set, if_pos rfl, if_pos (by rw [o.len]; exact l)], h⟩
      · rw [if_pos rfl, if_neg l] at q; cases q
    · rw [List.getElem?_set, if_neg e] at q
      obtain ⟨w, h1, h2⟩ := o.slots j g q
      exact ⟨w, by rw [List.getElem?_set, if_neg e]; exact h1, h2⟩⟩
theorem Ok.know {f : FF} (o : Ok W σ H) (h : f.p (hid W.S H)) : Ok { W with F := f :: W.F } σ H :=
  ⟨o.nod, o.own, o.at_, o.ms, o.al, o.bt, o.len, fun g m => by
    rcases List.mem_cons.mp m with m | m
    · rw [m]; exact h
    · exact o.facts g m, o.slots⟩
theorem go_set (h : Ev W ta t x) (k : Go (W.at i (t.is x)) us D) : Go W (tSeq (tAsg ta (gName i)) us) D := fun σ H o => h σ H o _ fun v H1 g r => k _ _ (g.ok.put r)
theorem go_set1 (h : Ev W ta t x) (k : ∀ σ H, Ok (W.at i (t.is x)) σ H → D.nx σ H) : Go W (tAsg ta (gName i)) D := fun σ H o => h σ H o _ fun v H1 g r => k _ _ (g.ok.put r)
/-- the value is known, some further facts of it too -/
theorem go_seq (h : Go W ts { D with nx := us D }) : Go W (tSeq ts us) D := h
theorem go_next (h : ∀ σ H, Ok W σ H → D.nx σ H) : Go W tNext D := h
theorem go_if {b : Bool} (h : Et W tt b) (h1 : b = true → Go W ts D) (h2 : b = false → Go W us D) : Go W (tIfS tt ts us) D := fun σ H o => h σ H o _ fun H1 g => by
  cases b with
  | true => exact h1 rfl σ H1 g.ok
  | false => exact h2 rfl σ H1 g.ok
/-- if .. : return | raise (and then go on) -/
theorem go_ifr {b : Bool} {vs : TS} (h : Et W tt b) (h1 : b = true → Go W ts { D with nx := vs D }) (h2 : b = false → Go W vs D) : Go W (tSeq (tIfS tt ts tNext) vs) D := go_if h h1 h2
theorem go_ret (h : Ev W ta t x) (k : ∀ σ v H, Ok W σ H → t.r (hid W.S H) v x → D.rt v H) : Go W (tRet ta) D := fun σ H o => h σ H o _ fun v H1 g r => k σ v H1 g.ok r
theorem go_drop (h : Ev W ta t x) (k : Go W us D) : Go W (tSeq (tDrop ta) us) D := fun σ H o => h σ H o _ fun v H1 g r => k _ _ g.ok
/-- what a promise wants at its end -/
def Rt (C : List RS) (S : List Addr) (H : Hp) (w : Ty β) (P : β → Prop) (Q : VK) : Prop := ∀ v y H', P y → Bt (fps C) H H' → (∀ a, a ∈ fps C → H' a ≠ none) → RsAt C S H' → w.r (hid S H') v y → Q v H'
theorem Ok.rsAt {C : List RS} {S : List Addr} (o : Ok W σ H) (hC : ∀ c ∈ C, c ∈ W.L) (hS : ∀ a, a ∈ S → a ∈ W.S) : RsAt C S H := fun r m => r.mono (hid_less hS) (o.at_ r (hC r m))
theorem go_endx {C : List RS} {S : List Addr} {w : Ty β} {P : β → Prop} {Q : VK} (h : Evx W ta w P) (out : Rt C S W.H0 w P Q) (hM : W.M = fps C := by rfl) (hC : ∀ c ∈ C, c ∈ W.L := by first | (intro c z; cases z) | (intro c z; exact z) | simp) (hS : ∀ a, a ∈ S → a ∈ W.S := by first | (intro a z; exact z) | (intro a z; exact List.mem_cons_of_mem _ z) | (intro a z; exact List.mem_cons_of_mem _ (List.mem_cons_of_mem _ z)) | simp) (hD : D.rt = Q := by rfl) : Go W (tRet ta) D := fun σ H o =>
  h σ H o _ fun v y H1 p g r => by
    rw [hD]
    exact out v y H1 p (by rw [← hM]; exact g.ok.bt) (fun a m => g.ok.al a (g.ok.ms a (by rw [hM]; exact m))) (g.ok.rsAt hC hS) (w.mono (hid_less hS) r)
theorem go_end {C : List RS} {S : List Addr} {w : Ty β} {P : β → Prop} {Q : VK} (h : Ev W ta w y) (out : Rt C S W.H0 w P Q) (hp : P y := by rfl) (hM : W.M = fps C := by rfl) (hC : ∀ c ∈ C, c ∈ W.L := by first | (intro c z; cases z) | (intro c z; exact z) | simp) (hS : ∀ a, a ∈ S → a ∈ W.S := by first | (intro a z; exact z) | (intro a z; exact List.mem_cons_of_mem _ z) | (intro a z; exact List.mem_cons_of_mem _ (List.mem_cons_of_mem _ z)) | simp) (hD : D.rt = Q := by rfl) : Go W (tRet ta) D :=
  go_endx (h.x hp) out hM hC hS hD
/-! ### a def keeps its promise -/
theorem ok_N {P : Program} {w : World} {mg : Str → Option Value} {base : Heap} {nm qual : Str} {st : Stmt} {f : Addr} {fd : FuncData} {N ps : List Str} {k : Nat} {C : α → List RS} {A : α → List SF} {wt : Ty β} {pre : α → Prop} {post : α → β → Prop}
    (F : Fun K nm qual st f fd) (S : FnScope N ps (defScope st)) (hl : ∀ x, (A x).length = ps.length)
    (body : ∀ (cdv : Value) (A' : Around) (outer : List Env) (s : Shared) (H0 : Hp) (S : List Addr) (x : α) (Q : VK) (E : XK), Room k (A'.deeper (envOfC qual (defScope st) s.heap.objs.size f cdv)) → pre x → Rt (C x) S H0 wt (post x) Q →
      ∃ t, PSs (cxOf CX0 P w K mg base N qual (defScope st) f cdv A' outer s H0 E).nox (defBody st) t ∧ Go ⟨H0, fps (C x), S, C x, [], (A x).map some ++ List.replicate (N.length - ps.length) none⟩ t { nx := fun _ H' => Q .non H', rt := Q }) :
    FnOk P w K mg base CX0 (k + 1) f fd ps (spN C A wt pre post) := by
  refine F.ok S (fun vs H Q E h => ?_) (fun cdv A' outer s H vs Q E hr h => ?_)
  · obtain ⟨S', x, _, _, _, _, ft, _⟩ := h
    rw [ft.length, hl]
  · obtain ⟨S', x, al, nd, sub, cc, ft, hp, out⟩ := h
    obtain ⟨t, h1, h2⟩ := body cdv A' outer s H S' x Q E hr hp (fun v y H' => out v y H')
    refine ⟨t, h1, h2 _ _ ⟨nd, fun a m => ⟨sub a m, .inl m⟩, cc, sub, al, Bt.refl, ?_, (fun f m => nomatch m), fun i f' q => ?_⟩⟩
    · show (L2.start N vs).length = ((A x).map some ++ List.replicate (N.length - ps.length) none).length
      unfold L2.start
      have e1 := ft.length
      have e2 := hl x
      simp only [List.length_append, List.length_map, List.length_replicate]
      omega
    · have q : ((A x).map some ++ List.replicate (N.length - ps.length) none)[i]? = some (some f') := q
      unfold L2.start
      by_cases l : i < (A x).length
      · rw [List.getElem?_append_left (by simpa using l), List.getElem?_map] at q
        cases c : (A x)[i]? with
        | none => rw [c] at q; cases q
        | some z =>
          rw [c] at q
          obtain rfl : z = f' := Option.some.inj (Option.some.inj q)
          obtain ⟨v, hv, hz⟩ := ft.get c
          exact ⟨v, by rw [List.getElem?_append_left (by simpa [ft.length] using l), List.getElem?_map, hv]; rfl, hz⟩
      · rw [List.getElem?_append_right (by simpa using l)] at q
        have := List.mem_of_getElem? q
        rw [List.mem_replicate] at this
        exact absurd this.2 (by simp)
theorem ok_P {P : Program} {w : World} {mg : Str → Option Value} {base : Heap} {nm qual : Str} {st : Stmt} {f : Addr} {fd : FuncData} {N ps : List Str} {k : Nat} {A : α → List SF} {wt : Ty β} {pre : α → Prop} {g : α → β}
    (F : Fun K nm qual st f fd) (S : FnScope N ps (defScope st)) (hl : ∀ x, (A x).length = ps.length)
    (body : ∀ (cdv : Value) (A' : Around) (outer : List Env) (s : Shared) (H0 : Hp) (S : List Addr) (x : α) (Q : VK) (E : XK), Room k (A'.deeper (envOfC qual (defScope st) s.heap.objs.size f cdv)) → pre x → Rt [] S H0 wt (fun y => y = g x) Q →
      ∃ t, PSs (cxOf CX0 P w K mg base N qual (defScope st) f cdv A' outer s H0 E).nox (defBody st) t ∧ Go ⟨H0, [], S, [], [], (A x).map some ++ List.replicate (N.length - ps.length) none⟩ t { nx := fun _ H' => Q .non H', rt := Q }) :
    FnOk P w K mg base CX0 (k + 1) f fd ps (spP A wt pre g) := ok_N F S hl body
/-! ### loops -/
/-- the list at p -/
def ffL (K : PySem.W.Frag) (t : Ty α) (p : Addr) (vs : List V) (xs : List α) : FF := ⟨fun H => SqL K H p vs ∧ All2 (t.r H) vs xs, fun e h => ⟨e.seq h.1, All2.mono (fun _ _ => t.mono e) h.2⟩⟩
/-- for x in xs: the world at each turn by a parameter -/
theorem go_forL {ι : Type} {xs : List α} (h : Ev W ta (tLs K t) xs) (J : Nat → ι → List RS × List (Option SF)) (Pv : Nat → ι → Prop) (c0 : ι) (p0 : Pv 0 c0) (w0 : Wk W { W with L := (J 0 c0).1, G := (J 0 c0).2 })
    (hs : ∀ k c x (F : List FF), (∀ f ∈ W.F, f ∈ F) → xs[k]? = some x → Pv k c → Go (Wd.at ⟨W.H0, W.M, W.S, (J k c).1, F, (J k c).2⟩ i (t.is x)) ts
      { D with nx := fun σ H => ∃ c', Pv (k + 1) c' ∧ Ok ⟨W.H0, W.M, W.S, (J (k + 1) c').1, F, (J (k + 1) c').2⟩ σ H, ct := fun σ H => ∃ c', Pv (k + 1) c' ∧ Ok ⟨W.H0, W.M, W.S, (J (k + 1) c').1, F, (J (k + 1) c').2⟩ σ H, bk := D.nx })
    (hd : ∀ c, Pv xs.length c → ∀ σ H, Ok { W with L := (J xs.length c).1, G := (J xs.length c).2 } σ H → D.nx σ H) :
    Go W (tFor (iList K ta) (gName i) ts) D := fun σ H o => by
  refine h σ H o _ fun v H1 g r => ?_
  obtain ⟨p, vs, rfl, hq, al⟩ := r
  refine ⟨p, rfl, ⟨vs, SqL.of (hid_sub _ _ hq)⟩, ?_⟩
  have hlen := al.length
  refine for_list (K := K) (a := p) (xs := vs) (fun k σ' H' => ∃ c, Pv k c ∧ Ok ⟨W.H0, W.M, W.S, (J k c).1, ffL K t p vs xs :: W.F, (J k c).2⟩ σ' H') ⟨c0, p0, Ok.know (w0 _ _ g.ok) ⟨SqL.of hq, al⟩⟩ (fun k σ' H' _ ⟨c, _, o'⟩ => hid_sub.seq (o'.facts (ffL K t p vs xs) (List.mem_cons_self ..)).1) ?_ ?_
  · rintro k w σ' H' hw ⟨c, pc, o'⟩
    obtain ⟨_, al'⟩ := o'.facts (ffL K t p vs xs) (List.mem_cons_self ..)
    obtain ⟨x, hx, rx⟩ := al'.getV hw
    exact hs k c x (ffL K t p vs xs :: W.F) (fun f m => List.mem_cons_of_mem _ m) hx pc _ _ (o'.put rx)
  · rintro σ' H' ⟨c, pc, o'⟩
    rw [hlen] at pc o'
    exact hd c pc _ _ ⟨o'.nod, o'.own, o'.at_, o'.ms, o'.al, o'.bt, o'.len, fun f m => o'.facts f (List.mem_cons_of_mem _ m), o'.slots⟩
/-- for x in range(n) -/
theorem go_range {ι : Type} {n : Int} (h : Ev W ta tInt n) (h1 : -(2 ^ 62) ≤ n) (h2 : n < 2 ^ 62) (J : Nat → ι → List RS × List (Option SF)) (Pv : Nat → ι → Prop) (c0 : ι) (p0 : Pv 0 c0) (w0 : Wk W { W with L := (J 0 c0).1, G := (J 0 c0).2 })
    (hs : ∀ k c, k < n.toNat → Pv k c → Go (Wd.at ⟨W.H0, W.M, W.S, (J k c).1, W.F, (J k c).2⟩ i (tInt.is (k : Int))) ts
      { D with nx := fun σ H => ∃ c', Pv (k + 1) c' ∧ Ok ⟨W.H0, W.M, W.S, (J (k + 1) c').1, W.F, (J (k + 1) c').2⟩ σ H, ct := fun σ H => ∃ c', Pv (k + 1) c' ∧ Ok ⟨W.H0, W.M, W.S, (J (k + 1) c').1, W.F, (J (k + 1) c').2⟩ σ H, bk := D.nx })
    (hd : ∀ c, Pv n.toNat c → ∀ σ H, Ok { W with L := (J n.toNat c).1, G := (J n.toNat c).2 } σ H → D.nx σ H) :
    Go W (tFor (iRng1 (tCons ta tNil)) (gName i) ts) D := fun σ H o => by
  refine h σ H o _ fun v H1 g r => ?_
  refine ⟨n, by rw [show v = .int n from r], h1, h2, ?_⟩
  refine for_range (lo := 0) (n := n.toNat) (fun k σ' H' => ∃ c, Pv k c ∧ Ok ⟨W.H0, W.M, W.S, (J k c).1, W.F, (J k c).2⟩ σ' H') ⟨c0, p0, w0 _ _ g.ok⟩ ?_ ?_
  · rintro k σ' H' hk ⟨c, pc, o'⟩
    exact hs k c hk pc _ _ (o'.put (v := .int (0 + (k : Int))) (by show V.int (0 + (k : Int)) = V.int (k : Int); rw [Int.zero_add]))
  · rintro σ' H' ⟨c, pc, o'⟩
    exact hd c pc _ _ o'
end
end Cs
set_option maxHeartbeats 4000000
namespace Cs
open PySem PySem.Spec PyProof.Rows L2
/-! ### lists that are made: comprehensions, appends -/
theorem wipe_set {σ : L2.St} {i : Nat} {x : Option V} : ∀ {vs : List Nat}, i ∈ vs → wipe (σ.set i x) vs = wipe σ vs
  | v :: vs, h => by
    unfold wipe
    by_cases e : i ∈ vs
    · rw [wipe_set e]
    · have : i = v := by
        rcases List.mem_cons.mp h with h | h
        · exact h
        · exact absurd h e
      subst this
      have key : ∀ (ws : List Nat), i ∉ ws → wipe (σ.set i x) ws = (wipe σ ws).set i x := by
        intro ws
        induction ws with
        | nil => intro _; rfl
        | cons w ws ih =>
          intro hn
          have h1 : i ≠ w := fun z => hn (z ▸ List.mem_cons_self ..)
          have h2 : i ∉ ws := fun z => hn (List.mem_cons_of_mem _ z)
          show (wipe (σ.set i x) ws).set w none = ((wipe σ ws).set w none).set i x
          rw [ih h2, List.set_comm _ _ (fun z => h1 z)]
      rw [key vs e, List.set_set]
theorem wipe_twice (σ : L2.St) (vs : List Nat) : wipe (wipe σ vs) vs = wipe σ vs := by
  have key : ∀ (ws us : List Nat), (∀ w ∈ ws, w ∈ us) → wipe (wipe σ ws) us = wipe σ us := by
    intro ws
    induction ws with
    | nil => intro us _; rfl
    | cons w ws ih =>
      intro us h
      show wipe ((wipe σ ws).set w none) us = _
      rw [wipe_set (h w (List.mem_cons_self ..)), ih us fun z hz => h z (List.mem_cons_of_mem _ hz)]
  exact key vs vs fun _ h => h
def wipeG (G : List (Option SF)) : List Nat → List (Option SF)
  | [] => G
  | v :: vs => (wipeG G vs).set v none
theorem wipeG_length (G : List (Option SF)) : ∀ vs : List Nat, (wipeG G vs).length = G.length
  | [] => rfl
  | v :: vs => by unfold wipeG; rw [List.length_set, wipeG_length G vs]
section
variable {α β γ : Type} {W W' : Wd} {K : PySem.W.Frag} {ta tb tc : TE} {t : Ty α} {u : Ty β} {x : α} {y : β} {tt uu : TT} {ar : TA} {fs : List SF} {ts us : TS} {D : Ends} {σ σ' : L2.St} {H H' : Hp} {i : Nat}
theorem Ok.none {j : Nat} (o : Ok W σ H) : Ok { W with G := W.G.set j Option.none } (σ.set j Option.none) H :=
  ⟨o.nod, o.own, o.at_, o.ms, o.al, o.bt, by show (σ.set j Option.none).length = (W.G.set j Option.none).length; rw [List.length_set, List.length_set]; exact o.len, o.facts, fun k g q => by
    have q : (W.G.set j Option.none)[k]? = some (some g) := q
    by_cases e : j = k
    · subst e
      by_cases l : j < W.G.length
      · rw [List.getElem?_set, if_pos rfl, if_pos l] at q; cases q
      · rw [List.getElem?_set, if_pos rfl, if_neg l] at q; cases q
    · rw [List.getElem?_set, if_neg e] at q
      obtain ⟨w, h1, h2⟩ := o.slots k g q
      exact ⟨w, by rw [List.getElem?_set, if_neg e]; exact h1, h2⟩⟩
theorem Ok.wipe : ∀ {vs : List Nat}, Ok W σ H → Ok { W with G := wipeG W.G vs } (L2.wipe σ vs) H
  | [], o => o
  | v :: vs, o => Ok.none (W := { W with G := wipeG W.G vs }) (Ok.wipe (vs := vs) o)
/-- the same world, other slots: what was known of the slots stays -/
theorem Ok.swap {G' : List (Option SF)} (o : Ok W σ H) (o' : Ok { W with G := G' } σ' H') (up : Same (hid W.S H) (hid W.S H')) : Ok W σ H' :=
  ⟨o.nod, o.own, o'.at_, o.ms, o'.al, o'.bt, o.len, o'.facts, fun i f q => by
    obtain ⟨v, h1, h2⟩ := o.slots i f q
    exact ⟨v, h1, f.mono up h2⟩⟩
/-- all that is to be read in H1 -/
def ffS (G : Hp) : FF := ⟨fun H => Same G H, fun e h => h.trans e⟩
/-- a thing is read only from now on -/
theorem Ok.drop {r : RS} {N S : List Addr} {L : List RS} {H0 : Hp} {M : List Addr} {F : List FF} {G : List (Option SF)} (o : Ok ⟨H0, M, N ++ S, r :: L, F, G⟩ σ H) (hS : ∀ a, a ∈ fps L → a ∈ S) (hM : ∀ a ∈ M, a ∈ S) : Ok ⟨H0, M, S, L, F, G⟩ σ H := by
  have up : Same (hid (N ++ S) H) (hid S H) := hid_less fun a h => List.mem_append_right _ h
  have nd : (fps ([r] ++ L)).Nodup := o.nod
  exact ⟨(nodup_app.mp nd).2.1, fun a m => ⟨hS a m, (o.own a (by obtain ⟨q, m1, m2⟩ := of_fps m; exact mem_fps (List.mem_cons_of_mem _ m1) m2)).2⟩, fun q m => q.mono up (o.at_ q (List.mem_cons_of_mem _ m)), hM, fun a m => o.al a (List.mem_append_right _ m), o.bt, o.len, fun f m => f.mono up (o.facts f m), fun j f q => by
      obtain ⟨v, h1, h2⟩ := o.slots j f q
      exact ⟨v, h1, f.mono up h2⟩⟩
theorem ok_sub {W : Wd} (o : Ok W σ H) : ∀ a, a ∈ fps W.L → a ∈ W.S := fun a m => (o.own a m).1
theorem filterMap_snoc (p : α → Bool) (g : α → β) (xs : List α) (x : α) : ((xs ++ [x]).filter p).map g = (xs.filter p).map g ++ (if p x = true then [g x] else []) := by
  rw [List.filter_append, List.map_append]
  congr 1
  cases h : p x <;> simp [h]
theorem take_snoc {xs : List α} {k : Nat} {x : α} (h : xs[k]? = some x) : xs.take (k + 1) = xs.take k ++ [x] := by
  rw [List.take_add_one, h]; rfl
/-- the world of a comprehension's element -/
def Wd.el (W : Wd) (D : Addr) (φ : CF) (F : List FF) (vs : List Nat) : Wd := ⟨W.H0, W.M, D :: W.S, cell D φ :: W.L, F, wipeG W.G vs⟩
/-- [te for x in ta if tt] -/
theorem ev_lc {xs : List α} {p : α → Bool} {g : α → β} {vs : List Nat} (h : Ev W ta (tLs K t) xs) (hi : i ∈ vs) (hl : xs.length < sizeLine)
    (ht : ∀ D φ F x, (∀ f ∈ W.F, f ∈ F) → x ∈ xs → Et ((W.el D φ F vs).at i (t.is x)) tt (p x))
    (he : ∀ D φ F x, (∀ f ∈ W.F, f ∈ F) → x ∈ xs → p x = true → Ev ((W.el D φ F vs).at i (t.is x)) tb u (g x)) : Ev W (tLc (iList K ta) (gName i) tt tb vs) (tLs K u) ((xs.filter p).map g) := fun σ H o Q q => by
  refine h σ H o _ fun v H1 g1 r => ?_
  obtain ⟨a, ws, rfl, hq, al⟩ := r
  refine ⟨a, rfl, ⟨ws, SqL.of (hid_sub _ _ hq)⟩, fun D nD => ?_⟩
  have hlen := al.length
  let Wk : Nat → Wd := fun k => ⟨W.H0, W.M, D :: W.S, cell D (cLs u (((xs.take k).filter p).map g)) :: W.L, ffL K t a ws xs :: ffS (hid W.S H1) :: W.F, W.G⟩
  have start : Ok (Wk 0) σ (upd H1 D (.lst [])) := by
    obtain ⟨o1, up⟩ := g1.ok.cell (ψ := cLs u ([] : List β)) nD ⟨[], rfl, trivial⟩
    exact Ok.know (Ok.know o1 (f := ffS (hid W.S H1)) up) (f := ffL K t a ws xs) ⟨SqL.of (up _ _ hq), All2.mono (fun _ _ => t.mono up) al⟩
  have len : ∀ k, (((xs.take k).filter p).map g).length ≤ xs.length := fun k => by
    rw [List.length_map]
    exact Nat.le_trans (List.length_filter_le ..) (by rw [List.length_take]; omega)
  refine lc_list (K := K) (a := a) (xs := ws) (fun k H' => Ok (Wk k) σ H') start (fun k H' _ o' => hid_sub.seq (o'.facts (ffL K t a ws xs) (List.mem_cons_self ..)).1) ?_ ?_
  · rintro k w H' hw o'
    obtain ⟨_, al'⟩ := o'.facts (ffL K t a ws xs) (List.mem_cons_self ..)
    obtain ⟨x, hx, rx⟩ := al'.getV hw
    have xm := List.mem_of_getElem? hx
    refine ⟨by rw [wipe_set hi, wipe_twice], ?_⟩
    have oe : Ok (((W.el D (cLs u (((xs.take k).filter p).map g)) (ffL K t a ws xs :: ffS (hid W.S H1) :: W.F) vs).at i (t.is x))) ((wipe σ vs).set i (some w)) H' := (Ok.wipe (vs := vs) o').put rx
    have sub : ∀ f ∈ W.F, f ∈ ffL K t a ws xs :: ffS (hid W.S H1) :: W.F := fun f m => List.mem_cons_of_mem _ (List.mem_cons_of_mem _ m)
    refine ht D _ _ x sub xm _ _ oe _ fun H2 g2 => ?_
    cases hp : p x with
    | false =>
      refine iteF ?_
      have o2 : Ok (Wk k) σ H2 := Ok.swap (W := Wk k) o' (Ok.swap (W := { Wk k with G := wipeG W.G vs }) (Ok.wipe (vs := vs) o') g2.ok g2.up) g2.up
      show Ok (Wk (k + 1)) σ H2
      have e : ((xs.take (k + 1)).filter p).map g = ((xs.take k).filter p).map g := by rw [take_snoc hx, filterMap_snoc, hp]; simp
      show Ok ⟨W.H0, W.M, D :: W.S, cell D (cLs u (((xs.take (k + 1)).filter p).map g)) :: W.L, ffL K t a ws xs :: ffS (hid W.S H1) :: W.F, W.G⟩ σ H2
      rw [e]
      exact o2
    | true =>
      refine iteT ?_
      refine he D _ _ x sub xm hp _ _ g2.ok _ fun y H3 g3 ry => ?_
      have g23 := g2.trans g3
      have o3 : Ok (Wk k) σ H3 := Ok.swap (W := Wk k) o' (Ok.swap (W := { Wk k with G := wipeG W.G vs }) (Ok.wipe (vs := vs) o') g23.ok g23.up) g23.up
      obtain ⟨ob, hob, us, rfl, hus⟩ := o3.at_ _ (List.mem_cons_self ..)
      refine ⟨us, hob, ?_, ?_⟩
      · rw [hus.length]
        exact Nat.lt_of_le_of_lt (len k) hl
      · have e : ((xs.take (k + 1)).filter p).map g = ((xs.take k).filter p).map g ++ [g x] := by rw [take_snoc hx, filterMap_snoc, hp]; simp
        have := (o3.write (ψ := cLs u (((xs.take (k + 1)).filter p).map g)) (o := .lst (us ++ [y])) rfl ⟨_, rfl, by rw [e]; exact hus.app (ws := [y]) (ys := [g x]) ⟨ry, trivial⟩⟩).ok
        exact this
  · intro H' o'
    have e : xs.take ws.length = xs := by rw [hlen, List.take_length]
    have o2 : Ok ⟨W.H0, W.M, D :: W.S, cell D (cLs u ((xs.filter p).map g)) :: W.L, ffL K t a ws xs :: ffS (hid W.S H1) :: W.F, W.G⟩ σ H' := by
      have : Ok (Wk ws.length) σ H' := o'
      have e2 : Wk ws.length = ⟨W.H0, W.M, D :: W.S, cell D (cLs u ((xs.filter p).map g)) :: W.L, ffL K t a ws xs :: ffS (hid W.S H1) :: W.F, W.G⟩ := by
        show (⟨W.H0, W.M, D :: W.S, cell D (cLs u (((xs.take ws.length).filter p).map g)) :: W.L, ffL K t a ws xs :: ffS (hid W.S H1) :: W.F, W.G⟩ : Wd) = _
        rw [e]
      rw [e2] at this
      exact this
    obtain ⟨ob, hob, us, rfl, hus⟩ := o2.at_ _ (List.mem_cons_self ..)
    have up := o2.facts (ffS (hid W.S H1)) (List.mem_cons_of_mem _ (List.mem_cons_self ..))
    have less : Same (hid (D :: W.S) H') (hid W.S H') := hid_less fun a h => List.mem_cons_of_mem _ h
    have o3 := Ok.drop (N := [D]) o2 (ok_sub g1.ok) g1.ok.ms
    have o4 : Ok W σ H' := ⟨o3.nod, o3.own, o3.at_, o3.ms, o3.al, o3.bt, o3.len, fun f m => o3.facts f (List.mem_cons_of_mem _ (List.mem_cons_of_mem _ m)), o3.slots⟩
    refine q _ _ (g1.trans ⟨o4, up.trans less⟩) ⟨D, us, rfl, ?_, All2.mono (fun _ _ => u.mono less) hus⟩
    rw [hid_of (g1.ok.off nD)]
    exact hob
theorem et_yes : Et W tYes true := fun σ H o Q q => q H (Go1.refl o)
theorem filter_yes (xs : List α) : xs.filter (fun _ => true) = xs := List.filter_eq_self.mpr fun _ _ => rfl
/-- [te for x in ta] -/
theorem ev_lc0 {xs : List α} {g : α → β} {vs : List Nat} (h : Ev W ta (tLs K t) xs) (hi : i ∈ vs) (hl : xs.length < sizeLine)
    (he : ∀ D φ F x, (∀ f ∈ W.F, f ∈ F) → x ∈ xs → Ev ((W.el D φ F vs).at i (t.is x)) tb u (g x)) : Ev W (tLc (iList K ta) (gName i) tYes tb vs) (tLs K u) (xs.map g) :=
  ev_is (ev_lc (p := fun _ => true) h hi hl (fun _ _ _ _ _ _ => et_yes) fun D φ F x hF hx _ => he D φ F x hF hx) (by rw [filter_yes])
/-- a display of a list -/
theorem ev_nil : Ev W (tLst tNil) (tLs K t) [] := fun σ H o Q q => ⟨Nat.zero_le _, fun p np => q _ _ (o.new np) ⟨p, [], rfl, (by rw [hid_of (o.off np)]; exact upd_same), trivial⟩⟩
/-- arguments that are all of one kind -/
def El (W : Wd) (ar : TA) (t : Ty α) (xs : List α) : Prop := ∀ σ H, Ok W σ H → ∀ Q : List V → Hp → Prop, (∀ vs H', Go1 W σ H H' → All2 (t.r (hid W.S H')) vs xs → Q vs H') → ar σ H Q
theorem el_nil : El W tNil t [] := fun σ H o Q q => q [] H (Go1.refl o) trivial
theorem el_cons {xs : List α} (ha : Ev W ta t x) (hr : El W ar t xs) : El W (tCons ta ar) t (x :: xs) := fun σ H o Q q =>
  ha σ H o _ fun v H1 g1 r1 => hr σ H1 g1.ok _ fun vs H2 g2 r2 => q (v :: vs) H2 (g1.trans g2) ⟨t.mono g2.up r1, r2⟩
theorem ev_lst {xs : List α} (h : El W ar t xs) (hl : xs.length ≤ sizeLine := by decide) : Ev W (tLst ar) (tLs K t) xs := fun σ H o Q q =>
  h σ H o _ fun vs H1 g1 r1 => ⟨by rw [r1.length]; exact hl, fun p np => q _ _ (g1.trans (g1.ok.new np)) ⟨p, vs, rfl, (by rw [hid_of (g1.ok.off np)]; exact upd_same), All2.mono (fun _ _ => t.mono (g1.ok.new np).up) r1⟩⟩
/-- out = [..], a list that is changed later -/
theorem go_new {xs : List α} (h : El W ar t xs) (hl : xs.length ≤ sizeLine := by decide) (k : ∀ p, Go ⟨W.H0, W.M, p :: W.S, cell p (cLs t xs) :: W.L, W.F, W.G.set i (some (tRf.is p))⟩ us D) : Go W (tSeq (tAsg (tLst ar) (gName i)) us) D := fun σ H o =>
  h σ H o _ fun vs H1 g1 r1 => ⟨by rw [r1.length]; exact hl, fun p np => k p _ _ (Ok.put (i := i) (f := tRf.is p) (g1.ok.cell (ψ := cLs t xs) np ⟨vs, rfl, r1⟩).1 rfl)⟩
theorem ok_new {p : Addr} {σ : L2.St} {H : Hp} (o : Ok W σ H) (np : H p = none) : Ok ⟨W.H0, W.M, p :: W.S, cell p (cLs t []) :: W.L, W.F, W.G.set i (some (tRf.is p))⟩ (σ.set i (some (.ref p))) (upd H p (.lst [])) :=
  Ok.put (i := i) (f := tRf.is p) (o.cell (ψ := cLs t []) np ⟨[], rfl, trivial⟩).1 rfl
/-- xs.append(e) -/
theorem go_app {p : Addr} {xs : List α} {R : List RS} (hp : W.G[i]? = some (some (tRf.is p))) (hL : W.L.Perm (cell p (cLs t xs) :: R)) (ha : Ev W ta t x) (hl : xs.length < sizeLine) (k : Go { W with L := cell p (cLs t (xs ++ [x])) :: R } us D) :
    Go W (tSeq (tDrop (tBM K "list" rAppend (tVar i) (tCons ta tNil))) us) D := fun σ H o => by
  obtain ⟨v, h1, h2⟩ := o.slots i _ hp
  obtain rfl : v = .ref p := h2
  have mem : cell p (cLs t xs) ∈ W.L := hL.mem_iff.mpr (List.mem_cons_self ..)
  obtain ⟨ob, hob, vs, rfl, _⟩ := o.at_ _ mem
  refine ⟨.ref p, h1, .inl ⟨rfl, vs, SqL.of hob⟩, ?_⟩
  refine ha σ H o _ fun y H1 g1 ry => ?_
  obtain ⟨ob, hob, ws, rfl, al⟩ := g1.ok.at_ _ mem
  exact ⟨p, ws, y, rfl, rfl, hob, by rw [al.length]; exact hl, k _ _ ((g1.ok.perm hL).write (ψ := cLs t (xs ++ [x])) rfl ⟨_, rfl, al.app (ws := [y]) (ys := [x]) ⟨ry, trivial⟩⟩).ok⟩
theorem go_app1 {p : Addr} {xs : List α} {R : List RS} (hp : W.G[i]? = some (some (tRf.is p))) (hL : W.L.Perm (cell p (cLs t xs) :: R)) (ha : Ev W ta t x) (hl : xs.length < sizeLine) (k : ∀ σ H, Ok { W with L := cell p (cLs t (xs ++ [x])) :: R } σ H → D.nx σ H) :
    Go W (tDrop (tBM K "list" rAppend (tVar i) (tCons ta tNil))) D := go_app (us := fun D σ H => D.nx σ H) hp hL ha hl k
theorem set_self {σ : L2.St} {v : V} (h1 : σ[i]? = some (some v)) : σ.set i (some v) = σ := by
  have l : i < σ.length := (List.getElem?_eq_some_iff.mp h1).1
  apply List.ext_getElem?
  intro j
  rw [List.getElem?_set]
  by_cases e : i = j
  · subst e; rw [if_pos rfl, if_pos l, h1]
  · rw [if_neg e]
/-- the list is done: it is read only -/
theorem go_frz {p : Addr} {xs : List α} {S : List Addr} {L : List RS} {H0 : Hp} {M : List Addr} {F : List FF} {G : List (Option SF)} (hp : G[i]? = some (some (tRf.is p))) (hM : ∀ a ∈ M, a ∈ S) (hn : p ∉ S) (hS : ∀ a, a ∈ fps L → a ∈ S)
    (k : Go ⟨H0, M, S, L, F, G.set i (some ((tLs K t).is xs))⟩ ts D) : Go ⟨H0, M, p :: S, cell p (cLs t xs) :: L, F, G⟩ ts D := fun σ H o => by
  obtain ⟨v, h1, h2⟩ := o.slots i _ hp
  obtain rfl : v = .ref p := h2
  obtain ⟨ob, hob, vs, rfl, al⟩ := o.at_ _ (List.mem_cons_self ..)
  have o2 := Ok.drop (N := [p]) o hS hM
  have up : Same (hid (p :: S) H) (hid S H) := hid_less fun a h => List.mem_cons_of_mem _ h
  have o3 := Ok.put (i := i) (v := .ref p) (f := (tLs K t).is xs) o2 ⟨p, vs, rfl, (by rw [hid_of hn]; exact hob), All2.mono (fun _ _ => t.mono up) al⟩
  rw [set_self h1] at o3
  exact k σ H o3
end
end Cs
set_option maxHeartbeats 4000000
namespace Cs
open PySem PySem.Spec PyProof.Rows L2
/-! ### the deck, its list told -/
def DeckA (K : PySem.W.Frag) (H : Hp) (d l : Addr) (ns : List Int) : Prop := ∃ b c e : Int, H d = some (DeckO l b c e) ∧ SqL K H l (ns.map V.int) ∧ l ≠ d ∧ 0 ≤ b
theorem deckA_of {K : PySem.W.Frag} {H H1 : Hp} {d l : Addr} {ns : List Int} {b c e : Int} (hl : SqL K H l (ns.map V.int)) (ne : l ≠ d) (hb : But d H H1) (h : H1 d = some (DeckO l b c e)) (b0 : 0 ≤ b) : DeckA K H1 d l ns := ⟨b, c, e, h, hb.seq ne hl, ne, b0⟩
def spDeckA (K : PySem.W.Frag) : Sp := fun vs H Q _ => ∃ (a : Addr) (ns : List Int), vs = [.ref a] ∧ SqL K H a (ns.map V.int) ∧ ∀ d l H', Same H H' → H d = none → DeckA K H' d l ns → Q (.ref d) H'
def spDrawA (K : PySem.W.Frag) : Sp := fun vs H Q _ => ∃ (d : Addr) (m : Int) (l : Addr) (ns : List Int), vs = [.ref d, .int m] ∧ 0 < m ∧ m.natAbs < 2 ^ 8000 ∧ DeckA K H d l ns ∧ ∀ v H', 0 ≤ v → v < m → But d H H' → DeckA K H' d l ns → Q (.int v) H'
/-! ### equality of data -/
structure Eqt (K : PySem.W.Frag) {α : Type} (t : Ty α) where
  d : α → PyData
  n : Nat
  dp : ∀ {H : Hp} {v : V} {x : α}, t.r H v x → Dp K H v (d x)
  dep : ∀ x, (d x).depth ≤ n
  inj : ∀ x y, PyData.eqv (d x) (d y) = true ↔ x = y
section
variable {K : PySem.W.Frag} {α : Type} {t : Ty α}
theorem Eqt.dec [DecidableEq α] (q : Eqt K t) (x y : α) : PyData.eqv (q.d x) (q.d y) = decide (x = y) := by
  rw [Bool.eq_iff_iff, q.inj, decide_eq_true_iff]
theorem Eqt.shape (q : Eqt K t) (hn : q.n ≤ 64) {x : α} (l : (q.d x).canLay0 = true) : SeqAt.shaped (q.d x) = true := by
  unfold SeqAt.shaped
  rw [l, decide_eq_true (Nat.le_trans (q.dep x) hn)]
  rfl
def eqInt : Eqt K tInt := ⟨.int, 0, fun h => by rw [show _ = V.int _ from h]; exact .int _, fun _ => by simp [PyData.depth], fun x y => by simp [PyData.eqv]⟩
def eqSt : Eqt K tSt := ⟨.str, 0, fun h => by rw [show _ = V.str _ from h]; exact .str _, fun _ => by simp [PyData.depth], fun x y => by simp [PyData.eqv]⟩
theorem rat_eq {x y : Rat} (h1 : x.num = y.num) (h2 : (x.den : Int) = y.den) : x = y := by
  have : x.den = y.den := by omega
  exact Rat.ext h1 this
def eqFr : Eqt K (tFr K) := ⟨fun r => .tuple [.int r.num, .int r.den], 1, fun ⟨p, e, h⟩ => by rw [e]; exact .tup h (.cons (.int _) (.cons (.int _) .nil)), fun _ => by simp [PyData.depth, PyData.depthAll], fun x y => by
  simp only [PyData.eqv, PyData.eqvAll, Bool.and_true, Bool.and_eq_true, beq_iff_eq]
  exact ⟨fun ⟨a, b⟩ => rat_eq a b, fun e => by rw [e]; exact ⟨rfl, rfl⟩⟩⟩
theorem dpAll_of {H : Hp} (q : Eqt K t) : ∀ {vs : List V} {xs : List α}, All2 (t.r H) vs xs → DpAll K H vs (xs.map q.d)
  | [], [], _ => .nil
  | _ :: _, _ :: _, ⟨a, b⟩ => .cons (q.dp a) (dpAll_of q b)
  | [], _ :: _, h => h.elim
  | _ :: _, [], h => h.elim
theorem depAll_of (q : Eqt K t) : ∀ xs : List α, PyData.depthAll (xs.map q.d) ≤ q.n
  | [] => by simp [PyData.depthAll]
  | x :: xs => by
    have := depAll_of q xs
    have := q.dep x
    simp only [List.map_cons, PyData.depthAll]
    omega
theorem eqvAll_of (q : Eqt K t) : ∀ xs ys : List α, PyData.eqvAll (xs.map q.d) (ys.map q.d) = true ↔ xs = ys
  | [], [] => by simp [PyData.eqvAll]
  | [], _ :: _ => by simp [PyData.eqvAll]
  | _ :: _, [] => by simp [PyData.eqvAll]
  | x :: xs, y :: ys => by
    simp only [List.map_cons, PyData.eqvAll, Bool.and_eq_true, q.inj, eqvAll_of q xs ys, List.cons.injEq]
def eqLs (q : Eqt K t) : Eqt K (tLs K t) := ⟨fun xs => .list (xs.map q.d), q.n + 1, fun ⟨p, vs, e, h, a⟩ => by rw [e]; exact .lst (SqL.of h) (dpAll_of q a), fun xs => by
  have := depAll_of q xs
  simp only [PyData.depth]
  omega, fun x y => by
  simp only [PyData.eqv]
  exact eqvAll_of q x y⟩
theorem layAll_of (q : Eqt K t) : ∀ xs : List α, (∀ x ∈ xs, (q.d x).canLay0 = true) → PyData.canLayAll0 (xs.map q.d) = true
  | [], _ => by simp [PyData.canLayAll0]
  | x :: xs, h => by
    simp only [List.map_cons, PyData.canLayAll0, Bool.and_eq_true]
    exact ⟨h x (List.mem_cons_self ..), layAll_of q xs fun y m => h y (List.mem_cons_of_mem _ m)⟩
theorem lay_ls (q : Eqt K t) {xs : List α} (h : ∀ x ∈ xs, (q.d x).canLay0 = true) : ((eqLs q).d xs).canLay0 = true := by
  show (PyData.list (xs.map q.d)).canLay0 = true
  simp only [PyData.canLay0]
  exact layAll_of q xs h
theorem lay_int (x : Int) : ((eqInt (K := K)).d x).canLay0 = true := by show (PyData.int x).canLay0 = true; simp [PyData.canLay0]
theorem lay_fr (x : Rat) : ((eqFr (K := K)).d x).canLay0 = true := by show (PyData.tuple [.int x.num, .int x.den]).canLay0 = true; simp [PyData.canLay0, PyData.canLayAll0]
end
theorem dp_mono {K : PySem.W.Frag} {H H' : Hp} (e : Same H H') {v : V} {d : PyData} (h : Dp K H v d) : Dp K H' v d := by
  have key : (∀ {v : V} {d : PyData}, Dp K H v d → Dp K H' v d) := by
    intro v d h
    exact Dp.rec (motive_1 := fun v d _ => Dp K H' v d) (motive_2 := fun vs ds _ => DpAll K H' vs ds) .non (fun b => .bl b) (fun i => .int i) (fun x => .str x) (fun s _ ih => .lst (e.seq s) ih) (fun s _ ih => .tup (sqT_mono e s) ih) .nil (fun _ _ a b => .cons a b) h
  exact key h
/-! ### more kinds -/
/-- an instance of the class at C with such attributes, read only -/
def FldAt (H : Hp) (fs : List (Str × V)) (flds : List (Str × SF)) : Prop := ∀ n f, (n, f) ∈ flds → ∃ u, fs.lookup n = some u ∧ f.p H u
def tOb (C : Addr) {α : Type} (flds : α → List (Str × SF)) : Ty α := ⟨fun H v x => ∃ a dx fs, v = .ref a ∧ H a = some (.ins C dx fs) ∧ FldAt H fs (flds x), fun e ⟨a, dx, fs, h, g, k⟩ => ⟨a, dx, fs, h, e _ _ g, fun n f m => by
  obtain ⟨u, h1, h2⟩ := k n f m
  exact ⟨u, h1, f.mono e h2⟩⟩⟩
/-- None or something that is not -/
def tOpt {α : Type} (t : Ty α) : Ty (Option α) := ⟨fun H v x => match x with
  | none => v = .non
  | some y => t.r H v y ∧ v ≠ .non, fun {H H' v x} e h => by
  cases x with
  | none => exact h
  | some y => exact ⟨t.mono e h.1, h.2⟩⟩
/-- a dict that is used as a set of names -/
def cKeys (ks : List Str) : CF := ⟨fun _ o => ∃ kvs, o = .dK kvs ∧ kvs.length ≤ ks.length ∧ ∀ z : Str, (valV kvs (Sum.inr z)).isSome = decide (z ∈ ks), fun _ h => h⟩
def cDeck (K : PySem.W.Frag) (l : Addr) (ns : List Int) : CF := ⟨fun F o => ∃ b c e, o = DeckO l b c e ∧ SqL K F l (ns.map V.int) ∧ 0 ≤ b, fun e ⟨b, c, f, h, g, k⟩ => ⟨b, c, f, h, e.seq g, k⟩⟩
/-! ### tests of several answers -/
def Etx (W : Wd) (tt : TT) (P : Bool → Prop) : Prop := ∀ σ H, Ok W σ H → ∀ Q : Bool → Hp → Prop, (∀ b H', P b → Go1 W σ H H' → Q b H') → tt σ H Q
section
variable {α β γ : Type} {W : Wd} {K : PySem.W.Frag} {ta tb tc : TE} {t : Ty α} {u : Ty β} {x x' : α} {y : β} {tt uu : TT} {ar : TA} {fs : List SF} {i j : Int} {E : XK} {ts us : TS} {D : Ends} {k : Nat} {z z' : Str}
theorem Et.toX {b : Bool} {P : Bool → Prop} (h : Et W tt b) (p : P b) : Etx W tt P := fun σ H o Q q => h σ H o Q fun H' g => q b H' p g
theorem Etx.any {P : Bool → Prop} (h : Etx W tt P) : Etx W tt fun _ => True := fun σ H o Q q => h σ H o Q fun b H' _ g => q b H' trivial g
theorem etx_and {P P' : Bool → Prop} (h : Etx W tt P) (g : Etx W uu P') : Etx W (tAnd tt uu) (fun b => if b = true then P true ∧ P' true else P false ∨ P' false) := fun σ H o Q q => h σ H o _ fun b H1 p g1 => by
  cases b with
  | true =>
    show uu σ H1 Q
    refine g σ H1 g1.ok Q fun c H2 p2 g2 => q c H2 ?_ (g1.trans g2)
    cases c with
    | true => exact ⟨p, p2⟩
    | false => exact .inr p2
  | false => exact q false H1 (.inl p) g1
theorem etx_eqI {P : Int → Prop} (ha : Evx W ta tInt P) (hb : Ev W tb tInt j) : Etx W (tTest (tOp rEq ta tb)) fun b => ∃ i, P i ∧ b = decide (i = j) := fun σ H o Q q =>
  ha σ H o _ fun v i H1 p g1 r1 => hb σ H1 g1.ok _ fun v2 H2 g2 r2 => by
    obtain rfl : v = .int i := r1
    obtain rfl : v2 = .int j := r2
    exact ⟨rfl, _, rfl, q _ H2 ⟨i, p, by simp⟩ (g1.trans g2)⟩
theorem etx_cmp {P : Int → Prop} {g : Int → Int → Bool} (ha : Evx W ta tInt P) (hb : Ev W tb tInt j) : Etx W (tTest (tOp (rI0 fun i j => .bl (g i j)) ta tb)) fun b => ∃ i, P i ∧ b = g i j := fun σ H o Q q =>
  ha σ H o _ fun v i H1 p g1 r1 => hb σ H1 g1.ok _ fun v2 H2 g2 r2 => ⟨i, j, r1, r2, _, rfl, q _ H2 ⟨i, p, rfl⟩ (g1.trans g2)⟩
theorem evx_eqI {P : Int → Prop} (ha : Evx W ta tInt P) (hb : Ev W tb tInt j) : Evx W (tOp rEq ta tb) tBl fun b => ∃ i, P i ∧ b = decide (i = j) := fun σ H o Q q =>
  ha σ H o _ fun v i H1 p g1 r1 => hb σ H1 g1.ok _ fun v2 H2 g2 r2 => by
    obtain rfl : v = .int i := r1
    obtain rfl : v2 = .int j := r2
    exact ⟨rfl, q _ (decide (i = j)) H2 ⟨i, p, rfl⟩ (g1.trans g2) (by show V.bl _ = V.bl _; simp)⟩
theorem evx_add {P P' : Int → Prop} (ha : Evx W ta tInt P) (hb : Evx W tb tInt P') : Evx W (tOp (rI0 fun i j => .int (i + j)) ta tb) tInt (fun s => ∃ i j, P i ∧ P' j ∧ s = i + j) := fun σ H o Q q =>
  ha σ H o _ fun v i H1 p g1 r1 => hb σ H1 g1.ok _ fun v2 j H2 p2 g2 r2 => ⟨i, j, r1, r2, q _ _ H2 ⟨i, j, p, p2, rfl⟩ (g1.trans g2) rfl⟩
theorem Evx.imp {P P' : α → Prop} (h : Evx W ta t P) (e : ∀ x, P x → P' x) : Evx W ta t P' := fun σ H o Q q => h σ H o Q fun v x H' p g r => q v x H' (e x p) g r
theorem Etx.imp {P P' : Bool → Prop} (h : Etx W tt P) (e : ∀ x, P x → P' x) : Etx W tt P' := fun σ H o Q q => h σ H o Q fun b H' p g => q b H' (e b p) g
/-- int(a bool) -/
theorem evx_intB {P : Bool → Prop} (h : Evx W ta tBl P) : Evx W (tCB (fun xs H Q => (∃ i, xs = [.int i] ∧ Q (.int i) H) ∨ ∃ k, xs = [.bl k] ∧ Q (.int (if k then 1 else 0)) H) (tCons ta tNil)) tInt fun i => ∃ b, P b ∧ i = if b then 1 else 0 := fun σ H o Q q =>
  h σ H o _ fun v b H1 p g1 e => .inr ⟨b, by rw [show v = .bl b from e], q _ _ H1 ⟨b, p, rfl⟩ g1 rfl⟩
theorem ev_intB {b : Bool} (h : Ev W ta tBl b) : Ev W (tCB (fun xs H Q => (∃ i, xs = [.int i] ∧ Q (.int i) H) ∨ ∃ k, xs = [.bl k] ∧ Q (.int (if k then 1 else 0)) H) (tCons ta tNil)) tInt (if b then 1 else 0) := fun σ H o Q q =>
  h σ H o _ fun v H1 g1 e => .inr ⟨b, by rw [show v = .bl b from e], q _ H1 g1 rfl⟩
/-! ### comparisons -/
theorem ev_eqI (ha : Ev W ta tInt i) (hb : Ev W tb tInt j) : Ev W (tOp rEq ta tb) tBl (decide (i = j)) := fun σ H o Q q =>
  ha σ H o _ fun v H1 g1 r1 => hb σ H1 g1.ok _ fun v2 H2 g2 r2 => by
    obtain rfl : v = .int i := r1
    obtain rfl : v2 = .int j := r2
    exact ⟨rfl, q _ H2 (g1.trans g2) (by show V.bl _ = V.bl _; simp)⟩
theorem ev_neI (ha : Ev W ta tInt i) (hb : Ev W tb tInt j) : Ev W (tOp rNe ta tb) tBl (!decide (i = j)) := fun σ H o Q q =>
  ha σ H o _ fun v H1 g1 r1 => hb σ H1 g1.ok _ fun v2 H2 g2 r2 => by
    obtain rfl : v = .int i := r1
    obtain rfl : v2 = .int j := r2
    exact ⟨rfl, q _ H2 (g1.trans g2) (by show V.bl _ = V.bl _; simp)⟩
theorem ev_eqS (ha : Ev W ta tSt z) (hb : Ev W tb tSt z') : Ev W (tOp rEq ta tb) tBl (decide (z = z')) := fun σ H o Q q =>
  ha σ H o _ fun v H1 g1 r1 => hb σ H1 g1.ok _ fun v2 H2 g2 r2 => by
    obtain rfl : v = .str z := r1
    obtain rfl : v2 = .str z' := r2
    exact ⟨rfl, q _ H2 (g1.trans g2) (by show V.bl _ = V.bl _; simp)⟩
theorem ev_neS (ha : Ev W ta tSt z) (hb : Ev W tb tSt z') : Ev W (tOp rNe ta tb) tBl (!decide (z = z')) := fun σ H o Q q =>
  ha σ H o _ fun v H1 g1 r1 => hb σ H1 g1.ok _ fun v2 H2 g2 r2 => by
    obtain rfl : v = .str z := r1
    obtain rfl : v2 = .str z' := r2
    exact ⟨rfl, q _ H2 (g1.trans g2) (by show V.bl _ = V.bl _; simp)⟩
theorem ev_eqD [DecidableEq α] (e : Eqt K t) (ha : Ev W ta t x) (hb : Ev W tb t x') (l1 : (e.d x).canLay0 = true) (l2 : (e.d x').canLay0 = true) (hn : e.n ≤ 64 := by decide) : Ev W (tOp (rEqD K) ta tb) tBl (decide (x = x')) := fun σ H o Q q =>
  ha σ H o _ fun v H1 g1 r1 => hb σ H1 g1.ok _ fun v2 H2 g2 r2 => ⟨e.d x, e.d x', dp_mono hid_sub (e.dp (t.mono g2.up r1)), dp_mono hid_sub (e.dp r2), e.shape hn l1, e.shape hn l2, by rw [e.dec]; exact q _ H2 (g1.trans g2) rfl⟩
theorem ev_neD [DecidableEq α] (e : Eqt K t) (ha : Ev W ta t x) (hb : Ev W tb t x') (l1 : (e.d x).canLay0 = true) (l2 : (e.d x').canLay0 = true) (hn : e.n ≤ 64 := by decide) : Ev W (tOp (rNeD K) ta tb) tBl (!decide (x = x')) := fun σ H o Q q =>
  ha σ H o _ fun v H1 g1 r1 => hb σ H1 g1.ok _ fun v2 H2 g2 r2 => ⟨e.d x, e.d x', dp_mono hid_sub (e.dp (t.mono g2.up r1)), dp_mono hid_sub (e.dp r2), e.shape hn l1, e.shape hn l2, by rw [e.dec]; exact q _ H2 (g1.trans g2) rfl⟩
/-- e is None -/
theorem et_isN {x : Option α} (h : Ev W ta (tOpt t) x) : Et W (tTest (tOp (fun x y H Q => y = .non ∧ Q (.bl (decide (x = .non))) H) ta (tC .non))) x.isNone := fun σ H o Q q =>
  h σ H o _ fun v H1 g1 r1 => ⟨rfl, _, rfl, by
    have : decide (v = .non) = x.isNone := by
      cases x with
      | none => rw [show v = .non from r1]; rfl
      | some y => exact decide_eq_false r1.2
    rw [this]
    exact q H1 g1⟩
theorem ev_some (h : Ev W ta (tOpt t) (some x)) : Ev W ta t x := ev_to h fun _ _ r => r.1
/-- a name among names -/
theorem inV_str {H : Hp} {vs : List V} {xs : List Str} (h : All2 (tSt.r H) vs xs) : inV (.str z) vs = decide (z ∈ xs) := by
  rw [All2.toMap V.str (fun v x e => e) h]
  clear h
  induction xs with
  | nil => rfl
  | cons y ys ih =>
    show (eqV (V.str y) (V.str z) || inV (V.str z) (ys.map V.str)) = _
    rw [ih, Bool.eq_iff_iff, Bool.or_eq_true, decide_eq_true_iff, decide_eq_true_iff, List.mem_cons]
    show (y == z) = true ∨ _ ↔ _
    rw [beq_iff_eq]
    exact ⟨fun h => h.imp (fun e => e.symm) id, fun h => h.imp (fun e => e.symm) id⟩
theorem flat_str {H : Hp} {vs : List V} {xs : List Str} (h : All2 (tSt.r H) vs xs) : vs.all flatV = true := by
  rw [All2.toMap V.str (fun v x e => e) h]
  simp [List.all_map, flatV]
theorem ev_inS {xs : List Str} (ha : Ev W ta tSt z) (hb : Ev W tb (tLs K tSt) xs) : Ev W (tOp (rIn K false) ta tb) tBl (decide (z ∈ xs)) := fun σ H o Q q =>
  ha σ H o _ fun v H1 g1 r1 => hb σ H1 g1.ok _ fun v2 H2 g2 ⟨p, vs, e, s, al⟩ => ⟨p, vs, e, .inl ((SqL.of (hid_sub _ _ s))), by rw [show v = .str z from r1]; rfl, flat_str al, q _ H2 (g1.trans g2) (by rw [show v = .str z from r1]; show V.bl (inV (.str z) vs) = _; rw [inV_str al])⟩
theorem ev_niS {xs : List Str} (ha : Ev W ta tSt z) (hb : Ev W tb (tLs K tSt) xs) : Ev W (tOp (rIn K true) ta tb) tBl (!decide (z ∈ xs)) := fun σ H o Q q =>
  ha σ H o _ fun v H1 g1 r1 => hb σ H1 g1.ok _ fun v2 H2 g2 ⟨p, vs, e, s, al⟩ => ⟨p, vs, e, .inl ((SqL.of (hid_sub _ _ s))), by rw [show v = .str z from r1]; rfl, flat_str al, q _ H2 (g1.trans g2) (by rw [show v = .str z from r1]; show V.bl (!inV (.str z) vs) = _; rw [inV_str al])⟩
/-- a list as a test -/
theorem et_tru {xs : List α} (h : Ev W ta (tLs K t) xs) : Et W (fun σ H Q => ta σ H fun x H' => ∃ k, TruV K x H' k ∧ Q k H') (!xs.isEmpty) := fun σ H o Q q =>
  h σ H o _ fun v H1 g1 ⟨p, vs, e, s, al⟩ => ⟨!xs.isEmpty, by
    rw [e]
    refine .inl ⟨vs, (SqL.of (hid_sub _ _ s)), ?_⟩
    cases vs with
    | nil => cases xs with
      | nil => rfl
      | cons _ _ => exact al.elim
    | cons _ _ => cases xs with
      | nil => exact al.elim
      | cons _ _ => rfl, q H1 g1⟩
/-! ### attributes -/
theorem ev_fld {C : Addr} {flds : α → List (Str × SF)} {n : Str} (m : Nat) (h : Ev W ta (tOb C flds) x) (cl : Cls K C) (na : NoAttr K C n) (e : (flds x)[m]? = some (n, u.is y) := by rfl) : Ev W (tFld K ta n) u y := fun σ H o Q q =>
  h σ H o _ fun v H1 g1 ⟨a, dx, fs, ev, ha, k⟩ => by
    obtain ⟨w, h1, h2⟩ := k n _ (List.mem_of_getElem? e)
    exact ⟨a, C, dx, fs, w, ev, hid_sub _ _ ha, cl, na, h1, q w H1 g1 h2⟩
/-! ### lists -/
/-- isinstance(e, list) -/
theorem ev_isL {xs : List α} {tc : TE} (h : Ev W ta (tLs K t) xs) (hc : tc = tC (.ty "list") := by rfl) (kl : PySem.W.kitOne K (.type "list") (.type "list") = some true) : Ev W (tCB (rIsi K) (tCons ta (tCons tc tNil))) tBl true := fun σ H o Q q =>
  h σ H o _ fun v H1 g1 ⟨p, vs, e, s, al⟩ => by
    subst hc
    refine ⟨v, .ty "list", .type "list", .type "list", true, rfl,   .ty _, ?_, kl, q _ H1 g1 rfl⟩
    rw [e]
    exact .base (.lst (hid_sub _ _ s))
end
end Cs
set_option maxHeartbeats 4000000
namespace Cs
open PySem PySem.Spec PyProof.Rows L2
/-! ### what is walked, what it is stored to -/
/-- the walk over xs: f is what it leans on -/
structure Wks {α : Type} (J : It) (f : FF) (t : Ty α) (xs : List α) : Prop where
  ex : ∃ Y, Walk J xs.length (fun H => ∃ S, f.p (hid S H)) Y ∧ ∀ i H v H' S, i < xs.length → f.p (hid S H) → (∀ a ∈ S, H a ≠ none) → Y i H v H' → Same H H' ∧ ∃ x, xs[i]? = some x ∧ t.r (hid S H') v x
def Iv {α : Type} (W : Wd) (wi : TI) (t : Ty α) (xs : List α) : Prop := ∀ σ H, Ok W σ H → ∀ R : It → Hp → Prop, (∀ J H1 f, Go1 W σ H H1 → f.p (hid W.S H1) → Wks J f t xs → R J H1) → wi σ H R
def Wd.puts (W : Wd) : List (Nat × SF) → Wd
  | [] => W
  | p :: ps => Wd.puts (W.at p.1 p.2) ps
def Tgt {α : Type} (g : TG) (t : Ty α) (as : α → List (Nat × SF)) : Prop := ∀ (W : Wd) σ H v x, Ok W σ H → t.r (hid W.S H) v x → ∀ Q : L2.St → Hp → Prop, (∀ σ', Ok (W.puts (as x)) σ' H → (∀ vs : List Nat, (∀ p ∈ as x, p.1 ∈ vs) → wipe σ' vs = wipe σ vs) → Q σ' H) → g v σ H Q
theorem tgt_name {α : Type} {t : Ty α} {i : Nat} : Tgt (gName i) t (fun x => [(i, t.is x)]) := fun W σ H v x o r Q q => q _ (o.put (f := t.is x) r) fun vs h => wipe_set (h (i, t.is x) (List.mem_cons_self ..))
theorem tgt_pair {α β : Type} {K : PySem.W.Frag} {t : Ty α} {u : Ty β} {i j : Nat} : Tgt (gTup K 2 (gCons (gName i) (gCons (gName j) gNil))) (tPr K t u) (fun p => [(i, t.is p.1), (j, u.is p.2)]) := fun W σ H v x o ⟨p, a, b, e, s, r1, r2⟩ Q q =>
  ⟨p, [a, b], e, sqT_mono hid_sub s, rfl, a, [b], rfl, b, [], rfl, rfl, q _ ((o.put (i := i) (f := t.is x.1) r1).put (i := j) (f := u.is x.2) r2) fun vs h => by
    rw [wipe_set (h (j, u.is x.2) (by simp)), wipe_set (h (i, t.is x.1) (List.mem_cons_self ..))]⟩
section
variable {α β γ : Type} {W : Wd} {K : PySem.W.Frag} {ta tb tc : TE} {t : Ty α} {u : Ty β} {x : α} {y : β} {tt uu : TT} {ar : TA} {ts us : TS} {D : Ends} {g : TG} {as : α → List (Nat × SF)} {wi : TI}
theorem iv_list {xs : List α} (h : Ev W ta (tLs K t) xs) : Iv W (iList K ta) t xs := fun σ H o R q => h σ H o _ fun v H1 g1 ⟨p, vs, e, s, al⟩ =>
  ⟨p, e, ⟨vs, (SqL.of (hid_sub _ _ s))⟩, q _ _ (ffL K t p vs xs) g1 ⟨SqL.of s, al⟩ ⟨YAt vs, by
    rw [← al.length]
    exact walk_list.mono (fun H ⟨S, z⟩ => hid_sub.seq z.1) fun i H v H' _ _ h => h, fun i H v H' S hi z _ ⟨e1, e2⟩ => by
    subst e1
    obtain ⟨x, h1, h2⟩ := z.2.getV e2
    exact ⟨Same.refl _, x, h1, h2⟩⟩⟩
theorem iv_rev {xs : List α} (h : Ev W ta (tLs K t) xs) : Iv W (RT.iRevA K ta) t xs.reverse := fun σ H o R q => h σ H o _ fun v H1 g1 ⟨p, vs, e, s, al⟩ =>
  ⟨p, vs, e, .inl ⟨(SqL.of (hid_sub _ _ s)), q _ _ (ffL K t p vs xs) g1 ⟨SqL.of s, al⟩ ⟨fun i H x H' => H' = H ∧ vs[vs.length - 1 - i]? = some x, by
    rw [List.length_reverse, ← al.length]
    exact walk_rev.mono (fun H ⟨S, z⟩ => hid_sub.seq z.1) fun i H v H' _ _ h => h, fun i H v H' S hi z _ ⟨e1, e2⟩ => by
    subst e1
    obtain ⟨x, h1, h2⟩ := z.2.getV e2
    refine ⟨Same.refl _, x, ?_, h2⟩
    rw [List.length_reverse] at hi
    rw [List.getElem?_reverse hi, ← al.length]
    exact h1⟩⟩⟩
def ffT : FF := ⟨fun _ => True, fun _ h => h⟩
theorem iv_range1 {n : Int} (h : Ev W ta tInt n) (h1 : -(2 ^ 62) ≤ n) (h2 : n < 2 ^ 62) : Iv W (iRng1 (tCons ta tNil)) tInt ((List.range n.toNat).map fun (i : Nat) => (i : Int)) := fun σ H o R q => h σ H o _ fun v H1 g1 r =>
  ⟨n, by rw [show v = .int n from r], h1, h2, q _ _ ffT g1 trivial ⟨YFn fun (i : Nat) => .int (0 + (i : Int)), by
    rw [List.length_map, List.length_range]
    exact walk_range.mono (fun _ _ => trivial) fun i H v H' _ _ h => h, fun i H v H' S hi z _ ⟨e1, e2⟩ => by
    subst e1 e2
    rw [List.length_map, List.length_range] at hi
    exact ⟨Same.refl _, (i : Int), by rw [List.getElem?_map, List.getElem?_range hi]; rfl, by show V.int (0 + (i : Int)) = V.int (i : Int); rw [Int.zero_add]⟩⟩⟩
/-- an iterable whose length has several answers -/
theorem evx_range1 {P : Int → Prop} {R' : Hp → Prop} {σ : L2.St} {H : Hp} {R : It → Hp → Prop} (o : Ok W σ H) (h : Evx W ta tInt P) (h1 : ∀ n, P n → -(2 ^ 62) ≤ n ∧ n < 2 ^ 62) (q : ∀ n J H1 f, P n → Go1 W σ H H1 → f.p (hid W.S H1) → Wks J f tInt ((List.range n.toNat).map fun (i : Nat) => (i : Int)) → R J H1) : iRng1 (tCons ta tNil) σ H R :=
  h σ H o _ fun v n H1 p g1 r => ⟨n, by rw [show v = .int n from r], (h1 n p).1, (h1 n p).2, q n _ _ ffT p g1 trivial ⟨YFn fun (i : Nat) => .int (0 + (i : Int)), by
    rw [List.length_map, List.length_range]
    exact walk_range.mono (fun _ _ => trivial) fun i H v H' _ _ h => h, fun i H v H' S hi z _ ⟨e1, e2⟩ => by
    subst e1 e2
    rw [List.length_map, List.length_range] at hi
    exact ⟨Same.refl _, (i : Int), by rw [List.getElem?_map, List.getElem?_range hi]; rfl, by show V.int (0 + (i : Int)) = V.int (i : Int); rw [Int.zero_add]⟩⟩⟩
/-! ### for -/
/-- a for over xs: the things and the slots at each turn by a parameter -/
theorem for_core {ι : Type} {xs : List α} {J : It} {f : FF} {σ : L2.St} {H1 : Hp} (wk : Wks J f t xs) (tg : Tgt g t as) (JJ : Nat → ι → Wd) (Pv : Nat → ι → Prop) (hS : ∀ k c, (JJ k c).F = f :: W.F)
    (start : ∃ c, Pv 0 c ∧ Ok (JJ 0 c) σ H1)
    (hs : ∀ k c x, xs[k]? = some x → Pv k c → Go ((JJ k c).puts (as x)) ts { D with nx := fun σ H => ∃ c', Pv (k + 1) c' ∧ Ok (JJ (k + 1) c') σ H, ct := fun σ H => ∃ c', Pv (k + 1) c' ∧ Ok (JJ (k + 1) c') σ H, bk := D.nx })
    (hd : ∀ c, Pv xs.length c → ∀ σ H, Ok (JJ xs.length c) σ H → D.nx σ H) :
    ∃ Wm : Nat → Nat → L2.St → Hp → Prop, (∃ m, Wm 0 m σ H1) ∧ ∀ i m σ H, Wm i m σ H →
      (J.stop i H ∧ D.nx σ H) ∨ (J.go i H ∧ ∃ N : L2.St → Hp → Prop, (∀ σ' H', N σ' H' → ∃ m', m' < m ∧ Wm (i + 1) m' σ' H') ∧ ∀ x H', J.yld i H x H' → g x σ H' fun σ2 H2 => ts { D with nx := N, ct := N, bk := D.nx } σ2 H2) := by
  obtain ⟨Y, wY, hY⟩ := wk.ex
  have ff : ∀ k c σ H, Ok (JJ k c) σ H → f.p (hid (JJ k c).S H) := fun k c σ H o => o.facts f (by rw [hS]; exact List.mem_cons_self ..)
  refine for_it wY (fun k σ H => ∃ c, Pv k c ∧ Ok (JJ k c) σ H) start (fun k σ H _ ⟨c, _, o⟩ => ⟨_, ff k c σ H o⟩) ?_ ?_
  · rintro k v σ H H' hk ⟨c, pc, o⟩ y
    obtain ⟨e, x, hx, rx⟩ := hY k H v H' _ hk (ff k c σ H o) o.al y
    exact tg _ σ H' v x (o.same e) rx _ fun σ' o' _ => hs k c x hx pc σ' H' o'
  · rintro σ H ⟨c, pc, o⟩
    exact hd c pc σ H o
theorem go_for {ι : Type} {xs : List α} (h : Iv W wi t xs) (tg : Tgt g t as) (J : Nat → ι → List RS × List (Option SF)) (Pv : Nat → ι → Prop) (c0 : ι) (p0 : Pv 0 c0) (w0 : Wk W { W with L := (J 0 c0).1, G := (J 0 c0).2 })
    (hs : ∀ k c x (f : FF), xs[k]? = some x → Pv k c → Go (Wd.puts ⟨W.H0, W.M, W.S, (J k c).1, f :: W.F, (J k c).2⟩ (as x)) ts
      { D with nx := fun σ H => ∃ c', Pv (k + 1) c' ∧ Ok ⟨W.H0, W.M, W.S, (J (k + 1) c').1, f :: W.F, (J (k + 1) c').2⟩ σ H, ct := fun σ H => ∃ c', Pv (k + 1) c' ∧ Ok ⟨W.H0, W.M, W.S, (J (k + 1) c').1, f :: W.F, (J (k + 1) c').2⟩ σ H, bk := D.nx })
    (hd : ∀ c, Pv xs.length c → ∀ σ H, Ok { W with L := (J xs.length c).1, G := (J xs.length c).2 } σ H → D.nx σ H) :
    Go W (tFor wi g ts) D := fun σ H o => h σ H o _ fun Ji H1 f g1 fp wk =>
  for_core wk tg (fun k c => ⟨W.H0, W.M, W.S, (J k c).1, f :: W.F, (J k c).2⟩) Pv (fun _ _ => rfl) ⟨c0, p0, Ok.know (w0 _ _ g1.ok) fp⟩ (fun k c x hx pc => hs k c x f hx pc) fun c pc σ' H' o' => hd c pc σ' H'
    ⟨o'.nod, o'.own, o'.at_, o'.ms, o'.al, o'.bt, o'.len, fun q m => o'.facts q (List.mem_cons_of_mem _ m), o'.slots⟩
/-! ### comprehensions -/
/-- what a comprehension makes of xs where test and element have several answers -/
inductive LcR (P : α → Bool → Prop) (R : α → β → Prop) : List α → List β → Prop
  | nil : LcR P R [] []
  | skip {xs ys x} : LcR P R xs ys → P x false → LcR P R (xs ++ [x]) ys
  | take {xs ys x y} : LcR P R xs ys → P x true → R x y → LcR P R (xs ++ [x]) (ys ++ [y])
theorem LcR.len {P : α → Bool → Prop} {R : α → β → Prop} {xs : List α} {ys : List β} (h : LcR P R xs ys) : ys.length ≤ xs.length := by
  induction h with
  | nil => exact Nat.le_refl _
  | skip _ _ ih => rw [List.length_append]; exact Nat.le_trans ih (Nat.le_add_right _ _)
  | take _ _ _ ih => rw [List.length_append, List.length_append]; simpa using ih
theorem LcR.det {p : α → Bool} {f : α → β} {xs : List α} {ys : List β} (h : LcR (fun x b => b = p x) (fun x y => y = f x) xs ys) : ys = (xs.filter p).map f := by
  induction h with
  | nil => rfl
  | skip _ hp ih => rw [filterMap_snoc, ← hp, ih]; simp
  | take _ hp hy ih => rw [filterMap_snoc, ← hp, ih, hy]; simp
theorem LcR.sub {P : α → Bool → Prop} {xs ys : List α} (h : LcR P (fun x y => y = x) xs ys) : ys.Sublist xs := by
  induction h with
  | nil => exact List.Sublist.refl _
  | skip _ _ ih => exact ih.trans (List.sublist_append_left _ _)
  | take _ _ e ih => rw [e]; exact List.Sublist.append ih (List.Sublist.refl _)
theorem LcR.all {P : α → Bool → Prop} {R : α → β → Prop} {p : β → Prop} {xs : List α} {ys : List β} (h : LcR P R xs ys) (f : ∀ x y, x ∈ xs → P x true → R x y → p y) : ∀ y, y ∈ ys → p y := by
  induction h with
  | nil => intro y m; cases m
  | skip _ _ ih => exact ih fun x y m => f x y (List.mem_append_left _ m)
  | take _ hp hr ih =>
    intro y m
    rcases List.mem_append.mp m with m | m
    · exact ih (fun x y m => f x y (List.mem_append_left _ m)) y m
    · rw [List.mem_singleton.mp m]
      exact f _ _ (List.mem_append_right _ (List.mem_singleton.mpr rfl)) hp hr
theorem LcR.full {R : α → β → Prop} {xs : List α} {ys : List β} (h : LcR (fun _ b => b = true) R xs ys) : ys.length = xs.length := by
  induction h with
  | nil => rfl
  | skip _ e _ => cases e
  | take _ _ _ ih => rw [List.length_append, List.length_append, ih]; rfl
theorem evx_lc {xs : List α} {P : α → Bool → Prop} {R : α → β → Prop} {vs : List Nat} (h : Iv W wi t xs) (tg : Tgt g t as) (hi : ∀ x, ∀ p ∈ as x, p.1 ∈ vs) (hl : xs.length < sizeLine)
    (ht : ∀ D φ F x, (∀ f ∈ W.F, f ∈ F) → x ∈ xs → Etx ((W.el D φ F vs).puts (as x)) tt (P x))
    (he : ∀ D φ F x, (∀ f ∈ W.F, f ∈ F) → x ∈ xs → P x true → Evx ((W.el D φ F vs).puts (as x)) tb u (R x)) (hp : ∀ (W : Wd) x, (W.puts (as x)).H0 = W.H0 ∧ (W.puts (as x)).M = W.M ∧ (W.puts (as x)).S = W.S ∧ (W.puts (as x)).L = W.L ∧ (W.puts (as x)).F = W.F := by intros; exact ⟨rfl, rfl, rfl, rfl, rfl⟩) :
    Evx W (tLc wi g tt tb vs) (tLs K u) (LcR P R xs) := fun σ H o Q q => by
  refine h σ H o _ fun J H1 f g1 fp wk => ?_
  intro D nD
  obtain ⟨Y, wY, hY⟩ := wk.ex
  let Wk : List β → Wd := fun ys => ⟨W.H0, W.M, D :: W.S, cell D (cLs u ys) :: W.L, f :: ffS (hid W.S H1) :: W.F, W.G⟩
  have start : Ok (Wk []) σ (upd H1 D (.lst [])) := by
    obtain ⟨o1, up⟩ := g1.ok.cell (ψ := cLs u ([] : List β)) nD ⟨[], rfl, trivial⟩
    exact Ok.know (Ok.know o1 (f := ffS (hid W.S H1)) up) (f := f) (f.mono up fp)
  have ff : ∀ ys H, Ok (Wk ys) σ H → f.p (hid (D :: W.S) H) := fun ys H o => o.facts f (List.mem_cons_self ..)
  refine lc_it wY (fun k H' => ∃ ys, LcR P R (xs.take k) ys ∧ Ok (Wk ys) σ H') ⟨[], .nil, start⟩ (fun k H' _ ⟨ys, _, o'⟩ => ⟨_, ff ys H' o'⟩) ?_ ?_
  · rintro k v H0' H' hk ⟨ys, rel, o'⟩ y
    obtain ⟨e, x, hx, rx⟩ := hY k H0' v H' _ hk (ff ys H0' o') o'.al y
    have o' := o'.same e
    have xm := List.mem_of_getElem? hx
    have sub : ∀ q ∈ W.F, q ∈ f :: ffS (hid W.S H1) :: W.F := fun q m => List.mem_cons_of_mem _ (List.mem_cons_of_mem _ m)
    refine tg _ _ H' v x (Ok.wipe (vs := vs) o') rx _ fun σ' oe ew => ?_
    refine ⟨by rw [ew vs (hi x), wipe_twice], ?_⟩
    have back : ∀ H2, Go1 (((W.el D (cLs u ys) (f :: ffS (hid W.S H1) :: W.F) vs).puts (as x))) σ' H' H2 → Ok (Wk ys) σ H2 := fun H2 g2 => by
      obtain ⟨p1, p2, p3, p4, p5⟩ := hp (W.el D (cLs u ys) (f :: ffS (hid W.S H1) :: W.F) vs) x
      have o2 := g2.ok
      have up := g2.up
      rw [p3] at up
      have o3 : Ok { Wk ys with G := ((W.el D (cLs u ys) (f :: ffS (hid W.S H1) :: W.F) vs).puts (as x)).G } σ' H2 := by
        have : ((W.el D (cLs u ys) (f :: ffS (hid W.S H1) :: W.F) vs).puts (as x)) = { Wk ys with G := ((W.el D (cLs u ys) (f :: ffS (hid W.S H1) :: W.F) vs).puts (as x)).G } := by
          generalize ((W.el D (cLs u ys) (f :: ffS (hid W.S H1) :: W.F) vs).puts (as x)) = Z at p1 p2 p3 p4 p5 ⊢
          cases Z
          cases p1; cases p2; cases p3; cases p4; cases p5
          rfl
        rw [← this]
        exact o2
      exact Ok.swap (W := Wk ys) o' o3 up
    refine ht D _ _ x sub xm _ _ oe _ fun b H2 pb g2 => ?_
    cases b with
    | false =>
      refine iteF ⟨ys, ?_, back H2 g2⟩
      rw [take_snoc hx]
      exact .skip rel pb
    | true =>
      refine iteT ?_
      refine he D _ _ x sub xm pb _ _ g2.ok _ fun w z H3 pz g3 rz => ?_
      have o3 := back H3 (g2.trans g3)
      obtain ⟨ob, hob, us', rfl, hus⟩ := o3.at_ _ (List.mem_cons_self ..)
      refine ⟨us', hob, ?_, ys ++ [z], ?_, ?_⟩
      · rw [hus.length]
        refine Nat.lt_of_le_of_lt (Nat.le_trans rel.len ?_) hl
        rw [List.length_take]
        omega
      · rw [take_snoc hx]
        exact .take rel pb pz
      · rw [(hp (W.el D (cLs u ys) (f :: ffS (hid W.S H1) :: W.F) vs) x).2.2.1] at rz
        exact (o3.write (ψ := cLs u (ys ++ [z])) (o := .lst (us' ++ [w])) rfl ⟨_, rfl, hus.app (ws := [w]) (ys := [z]) ⟨rz, trivial⟩⟩).ok
  · rintro H' ⟨ys, rel, o2⟩
    rw [List.take_length] at rel
    obtain ⟨ob, hob, us', rfl, hus⟩ := o2.at_ _ (List.mem_cons_self ..)
    have up := o2.facts (ffS (hid W.S H1)) (List.mem_cons_of_mem _ (List.mem_cons_self ..))
    have less : Same (hid (D :: W.S) H') (hid W.S H') := hid_less fun a h => List.mem_cons_of_mem _ h
    have o3 := Ok.drop (N := [D]) o2 (ok_sub g1.ok) g1.ok.ms
    have o4 : Ok W σ H' := ⟨o3.nod, o3.own, o3.at_, o3.ms, o3.al, o3.bt, o3.len, fun f m => o3.facts f (List.mem_cons_of_mem _ (List.mem_cons_of_mem _ m)), o3.slots⟩
    refine q _ ys _ rel (g1.trans ⟨o4, up.trans less⟩) ⟨D, us', rfl, ?_, All2.mono (fun _ _ => u.mono less) hus⟩
    rw [hid_of (g1.ok.off nD)]
    exact hob
theorem ev_lcf {xs : List α} {p : α → Bool} {f : α → β} {vs : List Nat} (h : Iv W wi t xs) (tg : Tgt g t as) (hi : ∀ x, ∀ p ∈ as x, p.1 ∈ vs) (hl : xs.length < sizeLine)
    (ht : ∀ D φ F x, (∀ f ∈ W.F, f ∈ F) → x ∈ xs → Et ((W.el D φ F vs).puts (as x)) tt (p x))
    (he : ∀ D φ F x, (∀ f ∈ W.F, f ∈ F) → x ∈ xs → p x = true → Ev ((W.el D φ F vs).puts (as x)) tb u (f x)) (hp : ∀ (W : Wd) x, (W.puts (as x)).H0 = W.H0 ∧ (W.puts (as x)).M = W.M ∧ (W.puts (as x)).S = W.S ∧ (W.puts (as x)).L = W.L ∧ (W.puts (as x)).F = W.F := by intros; exact ⟨rfl, rfl, rfl, rfl, rfl⟩) :
    Ev W (tLc wi g tt tb vs) (tLs K u) ((xs.filter p).map f) := fun σ H o Q q =>
  evx_lc (P := fun x b => b = p x) (R := fun x y => y = f x) h tg hi hl (fun D φ F x hF hx => (ht D φ F x hF hx).toX rfl) (fun D φ F x hF hx e => (he D φ F x hF hx e.symm).x rfl) hp σ H o Q fun v ys H' r g1 rr => q v H' g1 (r.det ▸ rr)
theorem ev_lcm {xs : List α} {f : α → β} {vs : List Nat} (h : Iv W wi t xs) (tg : Tgt g t as) (hi : ∀ x, ∀ p ∈ as x, p.1 ∈ vs) (hl : xs.length < sizeLine)
    (he : ∀ D φ F x, (∀ f ∈ W.F, f ∈ F) → x ∈ xs → Ev ((W.el D φ F vs).puts (as x)) tb u (f x)) (hp : ∀ (W : Wd) x, (W.puts (as x)).H0 = W.H0 ∧ (W.puts (as x)).M = W.M ∧ (W.puts (as x)).S = W.S ∧ (W.puts (as x)).L = W.L ∧ (W.puts (as x)).F = W.F := by intros; exact ⟨rfl, rfl, rfl, rfl, rfl⟩) :
    Ev W (tLc wi g tYes tb vs) (tLs K u) (xs.map f) :=
  ev_is (ev_lcf (p := fun _ => true) h tg hi hl (fun _ _ _ _ _ _ => et_yes) (fun D φ F x hF hx _ => he D φ F x hF hx) hp) (by rw [filter_yes])
end
end Cs
set_option maxHeartbeats 4000000
namespace Cs
open PySem PySem.Spec PyProof.Rows L2
/-! ### draws -/
def cDk (K : PySem.W.Frag) (d l : Addr) (ns : List Int) : CF := ⟨fun F o => ∃ b c e, o = DeckO l b c e ∧ SqL K F l (ns.map V.int) ∧ l ≠ d ∧ 0 ≤ b, fun e ⟨b, c, f, h, g, k⟩ => ⟨b, c, f, h, e.seq g, k⟩⟩
/-- the deck, where the script's own list is new, too -/
def spDeckN (K : PySem.W.Frag) : Sp := fun vs H Q _ => ∃ (a : Addr) (ns : List Int), vs = [.ref a] ∧ SqL K H a (ns.map V.int) ∧ ∀ d l H', Same H H' → H d = none → H l = none → DeckA K H' d l ns → Q (.ref d) H'
section
variable {α β γ : Type} {W : Wd} {K : PySem.W.Frag} {ta tb tc : TE} {t : Ty α} {u : Ty β} {x x' : α} {y : β} {tt uu : TT} {ar : TA} {fs : List SF} {i j : Int} {E : XK} {ts us : TS} {D : Ends} {z z' : Str} {g : TG} {as : α → List (Nat × SF)} {wi : TI}
theorem evx_draw {m : Int} {s : Nat} {d l : Addr} {ns : List Int} (hs : W.G[s]? = some (some (tRf.is d))) (hL : cell d (cDk K d l ns) ∈ W.L) (hm : Ev W ta tInt m) (m0 : 0 < m) (mb : m.natAbs < 2 ^ 8000) :
    Evx W (tCall (spDrawA K) [] E (tCons (tVar s) (tCons ta tNil))) tInt (fun v => 0 ≤ v ∧ v < m) := fun σ H o Q q => by
  obtain ⟨v, h1, rfl⟩ := o.slots s _ hs
  refine ⟨.ref d, h1, ?_⟩
  refine hm σ H o _ fun v H1 g1 r => ?_
  obtain ⟨ob, hob, b, c, e, rfl, hl, ne, b0⟩ := g1.ok.at_ _ hL
  refine ⟨d, m, l, ns, by rw [show v = .int m from r]; rfl, m0, mb, ⟨b, c, e, hob, hid_sub.seq hl, ne, b0⟩, fun w H2 w0 w1 bt ⟨b', c', e', hob', _, _, b0'⟩ => ?_⟩
  have fd : fps [cell d (cDk K d l ns)] = [d] := rfl
  have bt' : Bt (fps [cell d (cDk K d l ns)]) H1 H2 := fun a o n h => bt a o (fun z => n (by rw [fd, z]; exact List.mem_cons_self ..)) h
  have hd : d ∈ W.S := (g1.ok.own d (mem_fps hL (List.mem_cons_self ..))).1
  have up : Same (hid W.S H1) (hid W.S H2) := bt'.hid (N := []) (fun a m => by rw [fd] at m; rw [List.mem_singleton.mp m]; exact hd) (fun a m => nomatch m)
  have g2 := g1.ok.after (C := [cell d (cDk K d l ns)]) (fun r m => by rw [List.mem_singleton.mp m]; exact hL) bt' (fun a m => by rw [fd] at m; rw [List.mem_singleton.mp m, hob']; simp) (fun r m => by
    rw [List.mem_singleton.mp m]
    exact ⟨_, hob', b', c', e', rfl, up.seq hl, ne, b0'⟩)
  exact q _ w H2 ⟨w0, w1⟩ (g1.trans g2) rfl
/-- deck = _law_deck(script) -/
theorem go_deck {ns : List Int} {s n : Nat} (hs : W.G[s]? = some (some ((tSc K).is ns))) (k : ∀ d l, Go ⟨W.H0, W.M, d :: W.S, cell d (cDk K d l ns) :: W.L, W.F, W.G.set n (some (tRf.is d))⟩ us D) : Go W (tSeq (tAsg (tCall (spDeckN K) [] E (tCons (tVar s) tNil)) (gName n)) us) D := fun σ H o => by
  obtain ⟨v, h1, p, rfl, hq⟩ := o.slots s _ hs
  refine ⟨.ref p, h1, p, ns, rfl, ?_, fun d l H' e nd nl ⟨b, c, f, hd, hl, ne, b0⟩ => ?_⟩
  · exact hid_sub.seq hq
  · have o1 := o.same e
    have nl' : l ∉ [d] ++ W.S := fun z => by
      rcases List.mem_cons.mp z with z | z
      · exact ne z
      · exact o.al l z nl
    have e2 : Bt (fps ([] : List RS)) H H' := Bt.of e
    obtain ⟨o2, _⟩ := o.change1 (C := []) (C' := [cell d (cDk K d l ns)]) (R := W.L) (N := [d]) (H' := H') rfl e2 (fun a m => by rw [List.mem_singleton.mp m]; exact ⟨nd, by rw [hd]; simp⟩) (by show [d].Nodup; simp) (fun a m => .inr m) (fun a m => nomatch m) (fun r m => by
      rw [List.mem_singleton.mp m]
      refine ⟨_, hd, b, c, f, rfl, ?_, ne, b0⟩
      rcases hl with (hl | ⟨ob, hl⟩) | hl
      · exact .inl (.inl (by rw [hid_of nl']; exact hl))
      · exact .inl (.inr ⟨ob, by rw [hid_of nl']; exact hl⟩)
      · exact .inr hl)
    exact k d l _ _ (Ok.put (i := n) (f := tRf.is d) o2 rfl)
/-! ### fractions -/
theorem ev_ratio {p q : Int} (ha : Ev W ta tInt p) (hb : Ev W tb tInt q) (q0 : q ≠ 0) (hp : p.natAbs < 2 ^ 2400) (hq : q.natAbs < 2 ^ 2400) : Ev W (tCall spRatio [] E (tCons ta (tCons tb tNil))) (tFr K) (Rat.divInt p q) := fun σ H o Q k =>
  ha σ H o _ fun v H1 g1 r1 => hb σ H1 g1.ok _ fun v2 H2 g2 r2 => ⟨p, q, by rw [show v = .int p from r1, show v2 = .int q from r2]; rfl, q0, hp, hq, fun a H3 e na ha =>
    k _ _ ((g1.trans g2).trans (g2.ok.go e)) ⟨a, rfl, SqT.of (by rw [hid_of (g2.ok.off na)]; exact ha)⟩⟩
theorem evx_ratio {P P' : Int → Prop} (ha : Evx W ta tInt P) (hb : Evx W tb tInt P') (c : ∀ p q, P p → P' q → q ≠ 0 ∧ p.natAbs < 2 ^ 2400 ∧ q.natAbs < 2 ^ 2400) : Evx W (tCall spRatio [] E (tCons ta (tCons tb tNil))) (tFr K) (fun r => ∃ p q, P p ∧ P' q ∧ r = Rat.divInt p q) := fun σ H o Q k =>
  ha σ H o _ fun v p H1 pp g1 r1 => hb σ H1 g1.ok _ fun v2 q H2 pq g2 r2 => ⟨p, q, by rw [show v = .int p from r1, show v2 = .int q from r2]; rfl, (c p q pp pq).1, (c p q pp pq).2.1, (c p q pp pq).2.2, fun a H3 e na ha =>
    k _ _ _ ⟨p, q, pp, pq, rfl⟩ ((g1.trans g2).trans (g2.ok.go e)) ⟨a, rfl, SqT.of (by rw [hid_of (g2.ok.off na)]; exact ha)⟩⟩
theorem ev_frc {p q : Int} (ha : Ev W ta tInt p) (hb : Ev W tb tInt q) (q0 : q ≠ 0) (hq : q.natAbs < 2 ^ 9000) : Ev W (tCall spFrac [] E (tCons ta (tCons tb tNil))) (tFr K) (Rat.divInt p q) := fun σ H o Q k =>
  ha σ H o _ fun v H1 g1 r1 => hb σ H1 g1.ok _ fun v2 H2 g2 r2 => ⟨p, q, by rw [show v = .int p from r1, show v2 = .int q from r2]; rfl, q0, hq, fun a H3 e na ha =>
    k _ _ ((g1.trans g2).trans (g2.ok.go e)) ⟨a, rfl, SqT.of (by rw [hid_of (g2.ok.off na)]; exact ha)⟩⟩
theorem ev_frc1 {p : Int} (ha : Ev W ta tInt p) : Ev W (tCall spFrac [.int 1] E (tCons ta tNil)) (tFr K) (p : Rat) := fun σ H o Q k =>
  ha σ H o _ fun v H1 g1 r1 => ⟨p, 1, by rw [show v = .int p from r1]; rfl, by decide, Nat.lt_of_lt_of_le (by decide : (1 : Int).natAbs < 2 ^ 1) (Nat.pow_le_pow_right (by decide) (by decide)), fun a H3 e na ha =>
    k _ _ (g1.trans (g1.ok.go e)) ⟨a, rfl, SqT.of (by
      rw [hid_of (g1.ok.off na), ha]
      have : Rat.divInt p 1 = (p : Rat) := by
        rw [Rat.divInt_eq_div, show ((1 : Int) : Rat) = 1 from rfl]; grind
      rw [this]; rfl)⟩⟩
/-! ### lists, again -/
theorem ev_cat {xs ys : List α} (ha : Ev W ta (tLs K t) xs) (hb : Ev W tb (tLs K t) ys) (hl : xs.length + ys.length ≤ sizeLine) : Ev W (tOp rCat ta tb) (tLs K t) (xs ++ ys) := fun σ H o Q q =>
  ha σ H o _ fun v H1 g1 r1 => hb σ H1 g1.ok _ fun v2 H2 g2 ⟨p2, vs2, e2, s2, al2⟩ => by
    obtain ⟨p1, vs1, e1, s1, al1⟩ := (tLs K t).mono g2.up r1
    exact ⟨p1, p2, vs1, vs2, e1, e2, hid_sub _ _ s1, hid_sub _ _ s2, by rw [al1.length, al2.length]; exact hl, fun p np => q _ _ ((g1.trans g2).trans (g2.ok.new np))
      ⟨p, vs1 ++ vs2, rfl, (by rw [hid_of (g2.ok.off np)]; exact upd_same), All2.mono (fun _ _ => t.mono (g2.ok.new np).up) (al1.app al2)⟩⟩
/-- arguments with stars -/
theorem el_star {xs ys : List α} (ha : Ev W ta (tLs K t) xs) (hr : El W ar t ys) : El W (StX.tStar K ta ar) t (xs ++ ys) := fun σ H o Q q =>
  ha σ H o _ fun v H1 g1 ⟨p, vs, e, s, al⟩ => ⟨p, vs, e, .inr ((SqL.of (hid_sub _ _ s))), hr σ H1 g1.ok _ fun ws H2 g2 r2 => q _ _ (g1.trans g2) ((All2.mono (fun _ _ => t.mono g2.up) al).app r2)⟩
theorem El.go {xs ys : List α} (h : El W ar t xs) (e : xs = ys) : El W ar t ys := e ▸ h
end
end Cs
set_option maxHeartbeats 4000000
namespace Cs
open PySem PySem.Spec PyProof.Rows L2
open Sem (wp)
/-! ### list(reversed(xs)) -/
section
variable {prog : Program} {w : World} {A : Around} {E : Value → Shared → Prop} {s : Shared}
/-- the new list at S takes what the reversed iterator gives -/
theorem ext_rev {it l S : Addr} {items : Array Value} {R : Result → Shared → Prop} {res : Value} {c0 : Nat} (hh : A.handled = none) (hit : s.heap.IsRevIter it l ((items.size : Int) - 1)) (hl : s.heap.IsList l items) (hne : l ≠ it) (hn : items.size ≤ sizeLine)
    (hSi : S ≠ it) (hSl : S ≠ l) (hS : s.heap.get? S = some { cls := .type "list", data := .seq #[] c0 })
    (hR : ∀ (s' : Shared) (acc : Array Value) (c' : Nat), Moved [S, it] (fun a b => b = a) s s' → s'.heap.get? S = some { cls := .type "list", dict := none, data := .seq acc c', slots := #[] } → ItemsOf (fun i v => items[items.size - 1 - i]? = some v) acc items.size → R (.ok (.ret res)) s') :
    wpAny (model prog w) A.in1 (Builtin.List.listExtendWith (.ref S) (.ref it) res) (fun fin s' => match fin with | .done f => R (.ok f) s' | .again c' => c'.quiet = true ∧ codeAny (model prog w) A c' R s') (fun e s' => R (.error e) s') s := by
  have W := (Walks.listRev (prog := prog) (w := w) (A := A.in1) hh it l hne items).toS
  have hSf : S ∉ [it, l] := by simp [hSi, hSl]
  have hT : s.TypeIs (.ref it) "list_reverseiterator" := hit.typeIs
  have same : Builtin.List.listSameRef (.ref S) (.ref it) = false := by simp [Builtin.List.listSameRef, hSi]
  unfold Builtin.List.listExtendWith
  refine wpAny_bind (wpAny_typeOf hT ?_)
  rw [if_neg (by rw [same]; decide)]
  refine wpAny_bind (wpAny_pyIter_revIter hit ?_)
  refine wpAny_bind (wpAny_holding ?_)
  unfold Builtin.List.listLengthHint
  refine wpAny_bind (wpAny_specialOf hT RT.nolen_lri ?_)
  show wpAny _ A.in1 (specialOf (Value.ref it) (Str.ofString "__length_hint__") >>= _) _ _ _
  refine wpAny_bind (wpAny_specialOf hT RT.hint_lri ?_)
  generalize eid : ("list_reverseiterator.__length_hint__" : String) = hint
  wp_delta
  rw [show splitId hint = some ("list_reverseiterator", "__length_hint__") from by subst eid; decide +kernel]
  subst eid
  refine wpAny_bind (wpAny_isInstance (T := "list_reverseiterator") (b := true) hT (by rw [isSubtype_type]; kernel_rfl) ?_)
  refine wpAny_pure ?_
  rw [if_neg (by decide)]
  have st0 : (0 : Nat) ≤ items.size ∧ s.heap.IsRevIter it l ((items.size : Int) - 1 - ((0 : Nat) : Int)) ∧ s.heap.IsList l items := ⟨Nat.zero_le _, by rw [show (items.size : Int) - 1 - ((0 : Nat) : Int) = (items.size : Int) - 1 from by omega]; exact hit, hl⟩
  exact wpAny_pure ⟨plainId_quiet F.plain_extend_loop _, codeAny_extend_loopS W hn _ hSf _ items.size 0 _ _ _ rfl (Nat.zero_le _) st0 hS (ItemsOf.nil _) fun s' acc' c' hm hS' hacc => hR s' acc' c' hm hS' hacc⟩
theorem call_list_rev {it l : Addr} {items : Array Value} {Q : Value → Shared → Prop} (hh : A.handled = none) (hit : s.heap.IsRevIter it l ((items.size : Int) - 1)) (hl : s.heap.IsList l items) (hne : l ≠ it) (hn : items.size ≤ sizeLine)
    (hQ : ∀ (s' : Shared) (acc : Array Value) (c' : Nat), Moved [s.heap.objs.size, it] (fun a b => b = a) { s with heap := s.heap.push { cls := .type "list", data := .seq #[] } } s' → s'.heap.get? s.heap.objs.size = some { cls := .type "list", dict := none, data := .seq acc c', slots := #[] } →
      ItemsOf (fun i v => items[items.size - 1 - i]? = some v) acc items.size → Q (.ref s.heap.objs.size) s') : wpAny (model prog w) A (call (.type "list") [.ref it]) Q E s := by
  refine callType_codes (Q₁ := fun obj s₁ => obj = .ref s.heap.objs.size ∧ s₁ = { s with heap := s.heap.push { cls := .type "list", data := .seq #[] } }) F.called_list (F.typeCall_list_1 _) F.entry_list_init (code_list_new _ ⟨rfl, rfl⟩) fun obj s₁ h₁ => ?_
  obtain ⟨rfl, rfl⟩ := h₁
  have new : (s.heap.push { cls := .type "list", data := .seq #[] }).get? s.heap.objs.size = some { cls := .type "list", data := .seq #[] } := Heap.get?_push_size _ rfl
  have hSi : s.heap.objs.size ≠ it := by obtain ⟨o, ho, _⟩ := id hit; exact Nat.ne_of_gt (Heap.lt_size ho)
  have hSl : s.heap.objs.size ≠ l := by obtain ⟨o, ho, _⟩ := id hl; exact Nat.ne_of_gt (Heap.lt_size ho)
  refine ⟨⟨_, new, rfl⟩, F.args_list_init_2 _ _, ?_⟩
  show wpAny _ A.in1.in1 (Builtin.List.listItems (.ref s.heap.objs.size) >>= fun old => Builtin.List.listUpdate (.ref s.heap.objs.size) (fun _ => #[]) >>= fun _ => letGo old.toList.reverse >>= fun _ => Builtin.List.listExtendWith (.ref s.heap.objs.size) (.ref it) .none) _ _ _
  refine wpAny_bind ?_
  unfold Builtin.List.listItems
  refine wpAny_bind (wpAny_seqItems new rfl (wpAny_pure (wpAny_bind (m := updateSeq s.heap.objs.size fun _ => #[]) (wpAny_updateSeq new rfl (wpAny_bind (wpAny_letGo ?_))))))
  have new2 := Heap.get?_update_self (Obj.mapSeq (fun _ => (#[] : Array Value))) new rfl
  have oth : ∀ b o, b ≠ s.heap.objs.size → (s.heap.push { cls := .type "list", data := .seq #[] }).get? b = some o → ((s.heap.push { cls := .type "list", data := .seq #[] }).update s.heap.objs.size (Obj.mapSeq fun _ => (#[] : Array Value))).get? b = some o :=
    fun b o hb q => (Heap.get?_update_other _ _ (Ne.symm hb)).trans q
  refine ext_rev (A := A.in1) (c0 := _) hh (hit.at fun o q => oth _ o hSi.symm (Heap.get?_push_of_some _ q)) (by obtain ⟨o, ho, r⟩ := id hl; exact ⟨o, oth _ o hSl.symm (Heap.get?_push_of_some _ ho), r⟩) hne hn hSi hSl new2 fun s' acc c' hm hS' hacc => ?_
  have m1 : Moved [s.heap.objs.size, it] (fun a b => b = a) { s with heap := s.heap.push { cls := .type "list", data := .seq #[] } } { s with heap := (s.heap.push { cls := .type "list", data := .seq #[] }).update s.heap.objs.size (Obj.mapSeq fun _ => (#[] : Array Value)) } :=
    ⟨fun b o hb q => oth b o (fun z => hb (by rw [z]; exact List.mem_cons_self ..)) q, rfl, rfl, rfl, Nat.le_refl _⟩
  exact ⟨rfl, hQ s' acc c' (m1.trans (fun _ _ _ h1 h2 => h2.trans h1) hm) hS' hacc⟩
end
/-- list(reversed(e)), e a list -/
def tListRev (te : TE) : TE := fun σ H Q => te σ H fun v H1 => ∃ (a : Addr) (xs : List V), v = .ref a ∧ H1 a = some (.lst xs) ∧ ∀ q, H1 q = none → Q (.ref q) (upd H1 q (.lst xs.reverse))
theorem pe_listRev {X : Cx} {e : Expr} {te : TE} {p p2 pos pos2 : Pos} (hc : X.calm = true) (hg : Gl X "list") (hm : X.mg "list" = none) (hg2 : Gl X "reversed") (hm2 : X.mg "reversed" = none) (he : PE X e te)
    (hs : starEach [e] X.env = (false, eval e X.env) :: starEach [] X.env := by rfl)
    (hs2 : starEach [.Call (.Name "reversed" p2) [e] [] pos2] X.env = (false, eval (.Call (.Name "reversed" p2) [e] [] pos2) X.env) :: starEach [] X.env := by rfl) :
    PE X (.Call (.Name "list" p) [.Call (.Name "reversed" p2) [e] [] pos2] [] pos) (tListRev te) := by
  refine ⟨fun pins s σ H Q I h => ?_⟩
  refine Call_ (ld_blt I hg hm boot_list (PyProof.Rows.callWith_type1 (args_cons (Call_ (ld_blt I hg2 hm2 PyProof.Rows.boot_reversed (PyProof.Rows.callWith_type1 (args_cons (thn (he.run pins s σ H _ I h) fun u s1 ⟨v, H1, I1, r1, q1⟩ => args_nil ?_) hs) hs rfl))) hs2) hs2 rfl))
  obtain ⟨a, xs, ev, hq, q⟩ := q1
  subst ev
  obtain rfl : u = Value.ref a := r1
  obtain ⟨its, rv, pl, hz⟩ := I1.list (SqL.of hq)
  refine call_reversed_list pl.isList (args_nil ?_)
  have up : ∀ b o, s1.heap.get? b = some o → (s1.heap.push (revObj a ((its.toArray.size : Int) - 1))).get? b = some o := fun b o z => Heap.get?_push_of_some _ z
  have I2 : Inv X pins σ H1 { s1 with heap := s1.heap.push (revObj a ((its.toArray.size : Int) - 1)) } := I1.kept (t' := s1.toks) up
  obtain ⟨f0, f1, f2, f3, f4, f5⟩ := I1.fpOk (H' := H1) (b := s1.heap.objs.size) (Nat.le_refl _) (I1.hok.fresh (Nat.le_refl _))
  have isl := pl.isList
  obtain ⟨ol, hol, _⟩ := id isl
  have ne : a ≠ s1.heap.objs.size := Nat.ne_of_lt (Heap.lt_size hol)
  have small : its.toArray.size ≤ sizeLine := by rw [List.size_toArray, ← rv.length]; exact hz
  refine call_list_rev (s := { s1 with heap := s1.heap.push (revObj a ((its.toArray.size : Int) - 1)) }) (I1.ok.hd hc) ⟨_, Heap.get?_push_size _ rfl, rfl, rfl⟩ (isl.push _) ne small fun s2 acc c' mv hS hi => ?_
  have sz : (s1.heap.push (revObj a ((its.toArray.size : Int) - 1))).objs.size = s1.heap.objs.size + 1 := Heap.size_push ..
  have keep : ∀ b o, b ∉ [s1.heap.objs.size] → s1.heap.get? b = some o → s2.heap.get? b = some o := fun b o nb z => by
    have lt := Heap.lt_size z
    refine mv.heap b o (fun y => ?_) (Heap.get?_push_of_some _ (up b o z))
    rcases List.mem_cons.mp y with y | y
    · have y : b = (s1.heap.push (revObj a ((its.toArray.size : Int) - 1))).objs.size := y
      rw [sz] at y
      have lt : b < s1.heap.objs.size := lt
      exact absurd lt (by rw [y]; exact Nat.not_lt.mpr (Nat.le_succ _))
    · exact nb y
  have I3 : Inv X pins σ (upd H1 (s1.heap.objs.size + 1) (.lst xs.reverse)) { s1 with heap := s2.heap, toks := s2.toks } := I1.turnedNew (t' := s2.toks) (ch := [s1.heap.objs.size]) keep (fun b m => by rw [List.mem_singleton.mp m]; exact ⟨f0, f1, f2, f3, f4, f5⟩) (Nat.le_succ _)
    ⟨by rw [List.length_reverse]; exact hz, acc.toList, c', RT.vals_rev rv hi, by rw [Array.toArray_toList, ← sz]; exact hS⟩
  have eS : s2 = { s1 with heap := s2.heap, toks := s2.toks } := by
    have z := Moved.eq_with mv
    rw [z]
  rw [eS]
  refine ⟨.ref (s1.heap.objs.size + 1), _, I3, ?_, q _ (I1.hok.fresh (Nat.le_succ _))⟩
  show Value.ref _ = Value.ref _
  exact congrArg Value.ref sz
end Cs
set_option maxHeartbeats 4000000
namespace Cs
open PySem PySem.Spec PyProof.Rows L2
/-! ### dicts over a walk -/
section
variable {J : It} {n : Nat} {G : Hp → Prop} {Y : Nat → Hp → V → Hp → Prop}
theorem dc_it (w : Walk J n G Y) {g : TG} {tt : TT} {tk tv : TE} {vs : List Nat} {σ : L2.St} {H1 : Hp} {D : Addr} {Qd : Hp → Prop} (Pv : Nat → Hp → Prop) (h0 : Pv 0 (upd H1 D (.dK []))) (hG : ∀ i H, i ≤ n → Pv i H → G H)
    (hs : ∀ i x H H', i < n → Pv i H → Y i H x H' → g x (wipe σ vs) H' fun σ2 H2 => wipe σ2 vs = wipe σ vs ∧ tt σ2 H2 fun b H3 =>
      if b = true then tk σ2 H3 fun y H4 => tv σ2 H4 fun z H5 => ∃ kvs k, y = kV k ∧ H5 D = some (.dK kvs) ∧ kvs.length < sizeLine ∧ Pv (i + 1) (upd H5 D (.dK (putK kvs k z))) else Pv (i + 1) H3) (hd : ∀ H, Pv n H → Qd H) :
    ∃ W : Nat → Nat → Hp → Prop, (∃ m, W 0 m (upd H1 D (.dK []))) ∧ ∀ i m H, W i m H →
      (J.stop i H ∧ Qd H) ∨ (J.go i H ∧ ∃ Nx : Hp → Prop, (∀ H', Nx H' → ∃ m', m' < m ∧ W (i + 1) m' H') ∧ ∀ x H', J.yld i H x H' → g x (wipe σ vs) H' fun σ2 H2 => wipe σ2 vs = wipe σ vs ∧ tt σ2 H2 fun b H3 =>
        if b = true then tk σ2 H3 fun y H4 => tv σ2 H4 fun z H5 => ∃ kvs k, y = kV k ∧ H5 D = some (.dK kvs) ∧ kvs.length < sizeLine ∧ Nx (upd H5 D (.dK (putK kvs k z))) else Nx H3) := by
  refine ⟨fun i m H => m = n - i ∧ i ≤ n ∧ Pv i H, ⟨n, rfl, Nat.zero_le _, h0⟩, ?_⟩
  rintro i m H ⟨rfl, hi, p⟩
  have q := hG i H hi p
  by_cases l : i < n
  · exact .inr ⟨w.goes i H l q, Pv (i + 1), fun H' p' => ⟨n - (i + 1), by omega, rfl, l, p'⟩, fun x H' y => hs i x H H' l p (w.yields i H x H' l q y)⟩
  · obtain rfl : i = n := by omega
    exact .inl ⟨w.stops H q, hd H p⟩
end
section
variable {α β γ : Type} {W : Wd} {K : PySem.W.Frag} {ta tb tc tk tv : TE} {t : Ty α} {u : Ty β} {x x' : α} {y : β} {tt uu : TT} {ar : TA} {fs : List SF} {i j : Int} {E : XK} {ts us : TS} {D : Ends} {z z' : Str} {g : TG} {as : α → List (Nat × SF)} {wi : TI}
theorem keys_put {ks : List Str} {kvs : List (Key × V)} {z : Str} {v : V} (h : ∀ z : Str, (valV kvs (Sum.inr z)).isSome = decide (z ∈ ks)) : ∀ y : Str, (valV (putK kvs (Sum.inr z) v) (Sum.inr y)).isSome = decide (y ∈ ks ++ [z]) := fun y => by
  rw [valV_put]
  by_cases e : y = z
  · subst e
    rw [if_pos rfl]
    simp
  · rw [if_neg (fun q => e (Sum.inr.inj q)), h y]
    rw [Bool.eq_iff_iff, decide_eq_true_iff, decide_eq_true_iff]
    simp [e]
theorem len_put {kvs : List (Key × V)} {n : Nat} {k : Key} {v : V} (h : kvs.length ≤ n) : (putK kvs k v).length ≤ n + 1 := Nat.le_trans (length_putK _ _ _) (by omega)
/-- known = {f(x): e for x in xs}, used as a set of names -/
theorem go_dc {xs : List α} {f : α → Str} {vs : List Nat} {n : Nat} (h : Iv W wi t xs) (tg : Tgt g t as) (hi : ∀ x, ∀ p ∈ as x, p.1 ∈ vs) (hl : xs.length < sizeLine)
    (hk : ∀ D φ F x, (∀ f ∈ W.F, f ∈ F) → x ∈ xs → Ev ((W.el D φ F vs).puts (as x)) tk tSt (f x))
    (hv : ∀ D φ F x, (∀ f ∈ W.F, f ∈ F) → x ∈ xs → ∃ b, Ev ((W.el D φ F vs).puts (as x)) tv tBl b)
    (k : ∀ p, Go ⟨W.H0, W.M, p :: W.S, cell p (cKeys (xs.map f)) :: W.L, W.F, W.G.set n (some (tRf.is p))⟩ us D) (hp : ∀ (W : Wd) x, (W.puts (as x)).H0 = W.H0 ∧ (W.puts (as x)).M = W.M ∧ (W.puts (as x)).S = W.S ∧ (W.puts (as x)).L = W.L ∧ (W.puts (as x)).F = W.F := by intros; exact ⟨rfl, rfl, rfl, rfl, rfl⟩) :
    Go W (tSeq (tAsg (tDc wi g tYes tk tv vs) (gName n)) us) D := fun σ H o => by
  refine h σ H o _ fun J H1 f0 g1 fp wk => ?_
  intro D nD
  obtain ⟨Y, wY, hY⟩ := wk.ex
  let Wk : Nat → Wd := fun k => ⟨W.H0, W.M, D :: W.S, cell D (cKeys ((xs.take k).map f)) :: W.L, f0 :: W.F, W.G⟩
  have start : Ok (Wk 0) σ (upd H1 D (.dK [])) := by
    obtain ⟨o1, up⟩ := g1.ok.cell (ψ := cKeys ([] : List Str)) nD ⟨[], rfl, Nat.le_refl _, fun _ => rfl⟩
    exact Ok.know o1 (f := f0) (f0.mono up fp)
  have ff : ∀ k H, Ok (Wk k) σ H → f0.p (hid (D :: W.S) H) := fun k H o => o.facts f0 (List.mem_cons_self ..)
  refine dc_it wY (fun k H' => Ok (Wk k) σ H') start (fun k H' _ o' => ⟨_, ff k H' o'⟩) ?_ ?_
  · rintro k v H0' H' hk' o' y
    obtain ⟨e, x, hx, rx⟩ := hY k H0' v H' _ hk' (ff k H0' o') o'.al y
    have o' := o'.same e
    have xm := List.mem_of_getElem? hx
    have sub : ∀ q ∈ W.F, q ∈ f0 :: W.F := fun q m => List.mem_cons_of_mem _ m
    refine tg _ _ H' v x (Ok.wipe (vs := vs) o') rx _ fun σ' oe ew => ?_
    refine ⟨by rw [ew vs (hi x), wipe_twice], ?_⟩
    have back : ∀ H2, Go1 (((W.el D (cKeys ((xs.take k).map f)) (f0 :: W.F) vs).puts (as x))) σ' H' H2 → Ok (Wk k) σ H2 := fun H2 g2 => by
      obtain ⟨p1, p2, p3, p4, p5⟩ := hp (W.el D (cKeys ((xs.take k).map f)) (f0 :: W.F) vs) x
      have o2 := g2.ok
      have up := g2.up
      rw [p3] at up
      have o3 : Ok { Wk k with G := ((W.el D (cKeys ((xs.take k).map f)) (f0 :: W.F) vs).puts (as x)).G } σ' H2 := by
        have : ((W.el D (cKeys ((xs.take k).map f)) (f0 :: W.F) vs).puts (as x)) = { Wk k with G := ((W.el D (cKeys ((xs.take k).map f)) (f0 :: W.F) vs).puts (as x)).G } := by
          generalize ((W.el D (cKeys ((xs.take k).map f)) (f0 :: W.F) vs).puts (as x)) = Z at p1 p2 p3 p4 p5 ⊢
          cases Z
          cases p1; cases p2; cases p3; cases p4; cases p5
          rfl
        rw [← this]
        exact o2
      exact Ok.swap (W := Wk k) o' o3 up
    dsimp only [tYes]
    rw [if_pos rfl]
    refine hk D _ _ x sub xm _ _ oe _ fun y H2 g2 ry => ?_
    obtain ⟨b, hb⟩ := hv D (cKeys ((xs.take k).map f)) (f0 :: W.F) x sub xm
    refine hb _ _ g2.ok _ fun w H3 g3 _ => ?_
    have o3 := back H3 (g2.trans g3)
    obtain ⟨ob, hob, kvs, rfl, hlen, hkeys⟩ := o3.at_ _ (List.mem_cons_self ..)
    have hlen' : kvs.length ≤ k := Nat.le_trans hlen (by rw [List.length_map, List.length_take]; omega)
    refine ⟨kvs, Sum.inr (f x), ry, hob, by omega, ?_⟩
    have e3 : (xs.take (k + 1)).map f = (xs.take k).map f ++ [f x] := by rw [take_snoc hx, List.map_append]; rfl
    exact (o3.write (ψ := cKeys ((xs.take (k + 1)).map f)) (o := .dK (putK kvs (Sum.inr (f x)) w)) rfl ⟨_, rfl, by rw [e3, List.length_append]; exact len_put hlen, by rw [e3]; exact keys_put hkeys⟩).ok
  · intro H' o2
    have e : xs.take xs.length = xs := List.take_length
    have o3 : Ok ⟨W.H0, W.M, D :: W.S, cell D (cKeys (xs.map f)) :: W.L, f0 :: W.F, W.G⟩ σ H' := by
      have : Ok (Wk xs.length) σ H' := o2
      have e2 : Wk xs.length = ⟨W.H0, W.M, D :: W.S, cell D (cKeys (xs.map f)) :: W.L, f0 :: W.F, W.G⟩ := by
        show (⟨W.H0, W.M, D :: W.S, cell D (cKeys ((xs.take xs.length).map f)) :: W.L, f0 :: W.F, W.G⟩ : Wd) = _
        rw [e]
      rw [e2] at this
      exact this
    have o4 : Ok ⟨W.H0, W.M, D :: W.S, cell D (cKeys (xs.map f)) :: W.L, W.F, W.G⟩ σ H' := ⟨o3.nod, o3.own, o3.at_, o3.ms, o3.al, o3.bt, o3.len, fun q m => o3.facts q (List.mem_cons_of_mem _ m), o3.slots⟩
    exact k D _ _ (Ok.put (i := n) (f := tRf.is D) o4 rfl)
/-- a name in such a dict -/
theorem et_inK {s : Nat} {p : Addr} {ks : List Str} (hs : W.G[s]? = some (some (tRf.is p))) (hL : cell p (cKeys ks) ∈ W.L) (ha : Ev W ta tSt z) : Et W (tB (tDIn ta (tVar s))) (decide (z ∈ ks)) := fun σ H o Q q =>
  ha σ H o _ fun v H1 g1 r1 => by
    obtain ⟨w, h1, rfl⟩ := g1.ok.slots s _ hs
    obtain ⟨ob, hob, kvs, rfl, _, hk⟩ := g1.ok.at_ _ hL
    refine ⟨.ref p, h1, p, valV kvs (Sum.inr z), rfl, ?_, _, rfl, ?_⟩
    · rw [show v = kV (Sum.inr z) from r1]
      exact DGet.k hob
    · rw [hk]
      exact q H1 g1
theorem et_niK {s : Nat} {p : Addr} {ks : List Str} (hs : W.G[s]? = some (some (tRf.is p))) (hL : cell p (cKeys ks) ∈ W.L) (ha : Ev W ta tSt z) : Et W (tB (tDNotIn ta (tVar s))) (!decide (z ∈ ks)) := fun σ H o Q q =>
  ha σ H o _ fun v H1 g1 r1 => by
    obtain ⟨w, h1, rfl⟩ := g1.ok.slots s _ hs
    obtain ⟨ob, hob, kvs, rfl, _, hk⟩ := g1.ok.at_ _ hL
    refine ⟨.ref p, h1, p, valV kvs (Sum.inr z), rfl, ?_, _, rfl, ?_⟩
    · rw [show v = kV (Sum.inr z) from r1]
      exact DGet.k hob
    · rw [hk]
      exact q H1 g1
/-- fallen[name] = e -/
theorem go_putK {s : Nat} {p : Addr} {ks : List Str} {R : List RS} (hs : W.G[s]? = some (some (tRf.is p))) (hL : W.L.Perm (cell p (cKeys ks) :: R)) (ha : Ev W ta tSt z) (hb : Ev W tb t x) (hl : ks.length < sizeLine) (k : ∀ σ H, Ok { W with L := cell p (cKeys (ks ++ [z])) :: R } σ H → D.nx σ H) : Go W (sDPut (tVar s) ta tb) D := fun σ H o =>
  hb σ H o _ fun v H1 g1 r1 => by
    obtain ⟨w, h1, rfl⟩ := g1.ok.slots s _ hs
    refine ⟨.ref p, h1, ha σ H1 g1.ok _ fun y H2 g2 ry => ?_⟩
    obtain ⟨ob, hob, kvs, rfl, hlen, hk⟩ := g2.ok.at_ (cell p (cKeys ks)) (hL.mem_iff.mpr (List.mem_cons_self ..))
    refine ⟨p, _, rfl, ?_, k _ _ ((g2.ok.perm hL).write (ψ := cKeys (ks ++ [z])) (o := .dK (putK kvs (Sum.inr z) v)) rfl ⟨_, rfl, by rw [List.length_append]; exact len_put hlen, keys_put hk⟩).ok⟩
    rw [show y = kV (Sum.inr z) from ry]
    exact DPut.k hob (by omega)
/-! ### while -/
theorem go_while {ι : Type} (J : ι → Wd) (Pv : ι → Prop) (μ : ι → Nat) (c0 : ι) (p0 : Pv c0) (w0 : Wk W (J c0)) (hs : ∀ c, Pv c → ∃ b, Et (J c) tt b ∧ (b = true → Go (J c) ts { D with nx := fun σ H => ∃ c', Pv c' ∧ μ c' < μ c ∧ Ok (J c') σ H, ct := fun σ H => ∃ c', Pv c' ∧ μ c' < μ c ∧ Ok (J c') σ H, bk := D.nx }) ∧ (b = false → ∀ σ H, Ok (J c) σ H → D.nx σ H)) :
    Go W (tWhile tt ts) D := fun σ H o => by
  refine ⟨fun m σ H => ∃ c, Pv c ∧ m = μ c ∧ Ok (J c) σ H, ⟨μ c0, c0, p0, rfl, w0 σ H o⟩, ?_⟩
  rintro m σ H ⟨c, pc, rfl, o'⟩
  obtain ⟨b, hb, h1, h2⟩ := hs c pc
  refine hb σ H o' _ fun H1 g1 => ?_
  cases b with
  | true => exact ⟨fun σ' H' => ∃ c', Pv c' ∧ μ c' < μ c ∧ Ok (J c') σ' H', fun σ' H' ⟨c', a1, a2, a3⟩ => ⟨μ c', a2, c', a1, rfl, a3⟩, h1 rfl σ H1 g1.ok⟩
  | false => exact h2 rfl σ H1 g1.ok
/-! ### numbers and texts -/
theorem ev_shl (ha : Ev W ta tInt i) (hb : Ev W tb tInt j) (c : CPow i j) : Ev W (tOp (rI CPow fun i j => .int (i * 2 ^ j.toNat)) ta tb) tInt (i * 2 ^ j.toNat) := fun σ H o Q q =>
  ha σ H o _ fun v H1 g1 r1 => hb σ H1 g1.ok _ fun v2 H2 g2 r2 => ⟨i, j, r1, r2, c, q _ H2 (g1.trans g2) rfl⟩
theorem ev_ixS {n : Int} {c : Nat} (ha : Ev W ta tSt z) (hb : Ev W tb tInt n) (hl : z.length ≤ sizeLine) (e : atI z.cps.toList n = some c) : Ev W (tOp rIxS ta tb) tSt ⟨#[c]⟩ := fun σ H o Q q =>
  ha σ H o _ fun v H1 g1 r1 => hb σ H1 g1.ok _ fun v2 H2 g2 r2 => ⟨z, n, c, r1, r2, hl, e, q _ H2 (g1.trans g2) rfl⟩
theorem ev_listRev {xs : List α} (h : Ev W ta (tLs K t) xs) : Ev W (tListRev ta) (tLs K t) xs.reverse := fun σ H o Q q => h σ H o _ fun v H1 g1 ⟨p, vs, e, s, al⟩ =>
  ⟨p, vs, e, hid_sub _ _ s, fun l nl => q _ _ (g1.trans (g1.ok.new nl)) ⟨l, vs.reverse, rfl, by rw [hid_of (g1.ok.off nl)]; exact upd_same, by
    have rev : ∀ {r : V → α → Prop} (vs : List V) (xs : List α), All2 r vs xs → All2 r vs.reverse xs.reverse := by
      intro r vs
      induction vs with
      | nil => intro xs h; cases xs with
        | nil => exact trivial
        | cons _ _ => exact h.elim
      | cons v vs ih => intro xs h; cases xs with
        | nil => exact h.elim
        | cons x xs =>
          rw [List.reverse_cons, List.reverse_cons]
          exact (ih xs h.2).app (ws := [v]) (ys := [x]) ⟨h.1, trivial⟩
    exact rev _ _ (All2.mono (fun _ _ => t.mono (g1.ok.new nl).up) al)⟩⟩
end
end Cs
set_option maxHeartbeats 4000000
namespace Cs
open PySem PySem.Spec PyProof.Rows L2
/-! ### slots that are forgotten -/
def Sb : List (Option SF) → List (Option SF) → Prop
  | [], [] => True
  | _ :: G, none :: G' => Sb G G'
  | a :: G, some f :: G' => a = some f ∧ Sb G G'
  | _, _ => False
theorem Sb.len : ∀ {G G' : List (Option SF)}, Sb G G' → G.length = G'.length
  | [], [], _ => rfl
  | _ :: G, none :: G', h => by
    have q : Sb G G' := h
    simp [Sb.len q]
  | _ :: _, some _ :: _, h => by simp [Sb.len h.2]
  | [], _ :: _, h => h.elim
  | _ :: _, [], h => h.elim
theorem Sb.get : ∀ {G G' : List (Option SF)} {i : Nat} {f : SF}, Sb G G' → G'[i]? = some (some f) → G[i]? = some (some f)
  | [], [], _, _, _, q => by simp at q
  | _ :: _, none :: _, 0, _, _, q => by simp at q
  | _ :: G, none :: G', i + 1, f, h, q => by
    have h' : Sb G G' := h
    have q' : G'[i]? = some (some f) := q
    show G[i]? = some (some f)
    exact Sb.get h' q'
  | a :: _, some g :: _, 0, f, h, q => by
    obtain ⟨e, _⟩ := h
    subst e
    simpa using q
  | _ :: G, some _ :: G', i + 1, f, h, q => by
    have q' : G'[i]? = some (some f) := q
    show G[i]? = some (some f)
    exact Sb.get h.2 q'
  | [], _ :: _, _, _, h, _ => h.elim
  | _ :: _, [], _, _, h, _ => h.elim
theorem Ok.sb {H0 : Hp} {M S : List Addr} {L : List RS} {F F' : List FF} {G G' : List (Option SF)} {σ : L2.St} {H : Hp} (o : Ok ⟨H0, M, S, L, F, G⟩ σ H) (h : Sb G G') (hF : ∀ f, f ∈ F' → f ∈ F := by first | (intro f m; exact m) | (intro f m; cases m) | (intro f m; exact List.mem_cons_of_mem _ m)) : Ok ⟨H0, M, S, L, F', G'⟩ σ H :=
  Wk.of (H0 := H0) (M := M) (S := S) (L := L) h.len (fun i f q => h.get q) hF σ H o
theorem go_at {W : Wd} {σ : L2.St} {H : Hp} {ts : TS} {D : Ends} (o : Ok W σ H) (h : Go W ts D) : ts D σ H := h σ H o
theorem ev_fracI {W : Wd} {K : PySem.W.Frag} {ta : TE} {n : Int} (ha : Ev W ta tInt n) : Ev W (tTup (tCons ta (tCons (tC (.int 1)) tNil))) (tFr K) (n : Rat) := ev_frac ha ev_int rfl rfl
/-! ### sums -/
theorem zr {n : Nat} {x : Rat} (h : Sz n x) {m : Nat} (k : n ≤ m) : Sz m x := h.mono k
def rsum (rs : List Rat) : Rat := rs.foldl (fun x y => x + y) 0
def rpre (rs : List Rat) (i : Nat) : Rat := rsum (rs.take i)
theorem rpre_zero (rs : List Rat) : rpre rs 0 = 0 := rfl
theorem rpre_succ {rs : List Rat} {i : Nat} {r : Rat} (h : rs[i]? = some r) : rpre rs (i + 1) = rpre rs i + r := by
  unfold rpre rsum
  rw [take_snoc h, List.foldl_append]
  rfl
theorem rpre_all (rs : List Rat) : rpre rs rs.length = rsum rs := by unfold rpre; rw [List.take_length]
theorem sz_addN {n m : Nat} {r s : Rat} (h : Sz n r) (g : Sz m s) : Sz (n + m + 1) (r + s) := by
  rw [← add_div]
  exact sz_div (Int.mul_ne_zero (den_ne r) (den_ne s)) (add_lt (pow_lt h.nn g.dd) (by rw [Nat.add_comm n m]; exact pow_lt g.nn h.dd)) (Nat.lt_trans (pow_lt h.dd g.dd) (Nat.pow_lt_pow_right (by decide) (by omega)))
theorem sz_mulN {n m : Nat} {r s : Rat} (h : Sz n r) (g : Sz m s) : Sz (n + m) (r * s) := by
  rw [← mul_div]
  exact sz_div (Int.mul_ne_zero (den_ne r) (den_ne s)) (pow_lt h.nn g.nn) (pow_lt h.dd g.dd)
theorem rpre_sz {rs : List Rat} {n : Nat} (h : ∀ r ∈ rs, Sz n r) : ∀ i, i ≤ rs.length → Sz ((n + 1) * i + 1) (rpre rs i)
  | 0, _ => by rw [rpre_zero]; exact sz_zero (by omega)
  | i + 1, hi => by
    have hx : rs[i]? = some rs[i] := List.getElem?_eq_getElem (by omega)
    rw [rpre_succ hx]
    have := sz_addN (rpre_sz h i (by omega)) (h _ (List.getElem_mem (by omega : i < rs.length)))
    refine this.mono ?_
    rw [Nat.mul_succ]
    omega
theorem rsum_sz {rs : List Rat} {n : Nat} (h : ∀ r ∈ rs, Sz n r) : Sz ((n + 1) * rs.length + 1) (rsum rs) := by
  have := rpre_sz h rs.length (Nat.le_refl _)
  rwa [rpre_all] at this
theorem foldl_add (rs : List Rat) : ∀ a : Rat, rs.foldl (fun x y => x + y) a = a + rs.foldl (fun x y => x + y) 0 := by
  induction rs with
  | nil => intro a; show a = a + 0; grind
  | cons r rs ih =>
    intro a
    show rs.foldl _ (a + r) = a + rs.foldl _ (0 + r)
    rw [ih (a + r), ih (0 + r)]
    grind
theorem rsum_cons (r : Rat) (rs : List Rat) : rsum (r :: rs) = r + rsum rs := by
  show rs.foldl _ (0 + r) = _
  rw [foldl_add]
  show 0 + r + rsum rs = _
  grind
theorem rsum_nil : rsum [] = 0 := rfl
theorem rsum_app (a b : List Rat) : rsum (a ++ b) = rsum a + rsum b := by
  induction a with
  | nil => show rsum b = 0 + rsum b; grind
  | cons x a ih => rw [List.cons_append, rsum_cons, rsum_cons, ih]; grind
theorem rsum_perm {a b : List Rat} (h : a.Perm b) : rsum a = rsum b := by
  induction h with
  | nil => rfl
  | cons x _ ih => rw [rsum_cons, rsum_cons, ih]
  | swap x y l => rw [rsum_cons, rsum_cons, rsum_cons, rsum_cons]; grind
  | trans _ _ h1 h2 => exact h1.trans h2
theorem rsum_nn {a : List Rat} (h : ∀ x ∈ a, 0 ≤ x) : 0 ≤ rsum a := by
  induction a with
  | nil => show (0 : Rat) ≤ 0; grind
  | cons x a ih =>
    rw [rsum_cons]
    have := h x (List.mem_cons_self ..)
    have := ih fun y m => h y (List.mem_cons_of_mem _ m)
    grind
/-- more items, a greater sum -/
theorem rsum_sub {a b : List Rat} (h : a.Sublist b) (nn : ∀ x ∈ b, 0 ≤ x) : rsum a ≤ rsum b := by
  induction h with
  | slnil => show (0 : Rat) ≤ 0; grind
  | cons x _ ih =>
    rw [rsum_cons]
    have := nn x (List.mem_cons_self ..)
    have := ih fun y m => nn y (List.mem_cons_of_mem _ m)
    grind
  | cons_cons x _ ih =>
    rw [rsum_cons, rsum_cons]
    have := ih fun y m => nn y (List.mem_cons_of_mem _ m)
    grind
/-! ### bonds -/
structure Bd where
  name : Str
  issuer : Str
  units : Int
  face : Rat
  cross : Option Rat
structure BdOk (b : Bd) : Prop where
  u0 : 0 ≤ b.units
  u1 : b.units < 1000
  f0 : 0 ≤ b.face
  fs : Sz 10 b.face
  cs : ∀ c, b.cross = some c → Sz 10 c
def sizeB (b : Bd) : Rat := (b.units : Rat) * b.face
theorem sizeB_sz {b : Bd} (h : BdOk b) : Sz 20 (sizeB b) := by
  have : Sz 10 (b.units : Rat) := Sz.int (by have := h.u0; have := h.u1; show b.units.natAbs < 1024; omega) (by decide)
  exact sz_mulN this h.fs
theorem sizeB_nn {b : Bd} (h : BdOk b) : 0 ≤ sizeB b := by
  have h1 : (0 : Rat) ≤ (b.units : Rat) := by exact_mod_cast h.u0
  exact Rat.mul_nonneg h1 h.f0
/-- what the others that are in default weigh on a bond -/
def load (b : Bd) (others : List Bd) : Rat := rsum ((others.filter fun o => decide (o.issuer = b.issuer)).map sizeB)
def boundB (b : Bd) (others : List Bd) : Bool := match b.cross with
  | none => false
  | some c => decide (0 < cmpR (load b others) c)
theorem cmpR_pos {r s : Rat} : 0 < cmpR r s ↔ s < r := by
  have h3 := cmpR_three r s
  rw [← cmpR_gt]
  omega
theorem boundB_iff {b : Bd} {others : List Bd} : boundB b others = true ↔ ∃ c, b.cross = some c ∧ c < load b others := by
  unfold boundB
  cases h : b.cross with
  | none => simp
  | some c => simp [cmpR_pos]
theorem filter_sub {α : Type} {p q : α → Bool} (h : ∀ x, p x = true → q x = true) : ∀ l : List α, (l.filter p).Sublist (l.filter q)
  | [] => List.Sublist.refl _
  | x :: l => by
    have ih := filter_sub h l
    cases hp : p x with
    | true => rw [List.filter_cons_of_pos hp, List.filter_cons_of_pos (h x hp)]; exact ih.cons_cons x
    | false =>
      rw [List.filter_cons_of_neg (by rw [hp]; decide)]
      cases hq : q x with
      | true => rw [List.filter_cons_of_pos hq]; exact ih.cons x
      | false => rw [List.filter_cons_of_neg (by rw [hq]; decide)]; exact ih
def inN (ks : List Str) (bs : List Bd) : List Bd := bs.filter fun b => decide (b.name ∈ ks)
def Closed (bs : List Bd) (ex T : List Str) : Prop := ∀ b ∈ bs, b.name ∉ T → b.name ∉ ex → boundB b (inN T bs) = false
theorem load_mono {b : Bd} {bs : List Bd} {T U : List Str} (ok : ∀ b ∈ bs, BdOk b) (h : ∀ z, z ∈ T → z ∈ U) : load b (inN T bs) ≤ load b (inN U bs) := by
  unfold load inN
  refine rsum_sub (List.Sublist.map _ ?_) fun x m => ?_
  · rw [List.filter_filter, List.filter_filter]
    refine filter_sub (fun o ho => ?_) _
    simp only [Bool.and_eq_true, decide_eq_true_eq] at ho ⊢
    exact ⟨ho.1, h _ ho.2⟩
  · obtain ⟨o, m1, rfl⟩ := List.mem_map.mp m
    exact sizeB_nn (ok o (List.mem_filter.mp (List.mem_filter.mp m1).1).1)
theorem boundB_mono {b : Bd} {bs : List Bd} {T U : List Str} (ok : ∀ b ∈ bs, BdOk b) (h : ∀ z, z ∈ T → z ∈ U) (q : boundB b (inN T bs) = true) : boundB b (inN U bs) = true := by
  obtain ⟨c, e, l⟩ := boundB_iff.mp q
  exact boundB_iff.mpr ⟨c, e, by have := load_mono (b := b) ok h; grind⟩
/-- the least closed set -/
structure Least (bs : List Bd) (ow ex ks : List Str) : Prop where
  own : ∀ z, z ∈ ow → z ∈ ks
  cl : Closed bs ex ks
  least : ∀ T, (∀ z, z ∈ ow → z ∈ T) → Closed bs ex T → ∀ z, z ∈ ks → z ∈ T
theorem inN_perm {bs cs : List Bd} (h : bs.Perm cs) (T : List Str) : (inN T bs).Perm (inN T cs) := h.filter _
theorem load_perm {b : Bd} {os us : List Bd} (h : os.Perm us) : load b os = load b us := rsum_perm ((h.filter _).map _)
theorem boundB_perm {b : Bd} {os us : List Bd} (h : os.Perm us) : boundB b os = boundB b us := by
  unfold boundB
  cases b.cross with
  | none => rfl
  | some c => rw [load_perm h]
theorem Closed.perm {bs cs : List Bd} (h : bs.Perm cs) {ex T : List Str} (c : Closed bs ex T) : Closed cs ex T := fun b m h1 h2 => by
  rw [← boundB_perm (inN_perm h T)]
  exact c b (h.mem_iff.mpr m) h1 h2
theorem Least.mem_iff {bs cs : List Bd} {own own' ex ks ks' : List Str} (hp : bs.Perm cs) (ho : ∀ z, z ∈ own ↔ z ∈ own') (l : Least bs own ex ks) (l' : Least cs own' ex ks') (z : Str) : z ∈ ks ↔ z ∈ ks' :=
  ⟨fun m => l.least ks' (fun y q => l'.own y ((ho y).mp q)) (l'.cl.perm hp.symm) z m, fun m => l'.least ks (fun y q => l.own y ((ho y).mpr q)) (l.cl.perm hp) z m⟩
/-- one turn: those that are bound are added -/
def bnd (bs : List Bd) (ex ks : List Str) : List Str := (((bs.filter fun b => !decide (b.name ∈ ks) && !decide (b.name ∈ ex)).filter fun b => boundB b (inN ks bs))).map Bd.name
theorem bnd_new {bs : List Bd} {ex ks : List Str} {z : Str} (h : z ∈ bnd bs ex ks) : ∃ b ∈ bs, b.name = z ∧ b.name ∉ ks ∧ b.name ∉ ex ∧ boundB b (inN ks bs) = true := by
  obtain ⟨b, m, rfl⟩ := List.mem_map.mp h
  obtain ⟨m1, m2⟩ := List.mem_filter.mp m
  obtain ⟨m3, m4⟩ := List.mem_filter.mp m1
  simp only [Bool.and_eq_true, Bool.not_eq_true', decide_eq_false_iff_not] at m4
  exact ⟨b, m3, rfl, m4.1, m4.2, m2⟩
theorem bnd_closed {bs : List Bd} {ex ks : List Str} (h : bnd bs ex ks = []) : Closed bs ex ks := fun b m h1 h2 => by
  cases q : boundB b (inN ks bs) with
  | false => rfl
  | true =>
    have : b.name ∈ bnd bs ex ks := List.mem_map.mpr ⟨b, List.mem_filter.mpr ⟨List.mem_filter.mpr ⟨m, by simp [h1, h2]⟩, q⟩, rfl⟩
    rw [h] at this; cases this
theorem bnd_least {bs : List Bd} {ex ks T : List Str} (ok : ∀ b ∈ bs, BdOk b) (hk : ∀ z, z ∈ ks → z ∈ T) (c : Closed bs ex T) : ∀ z, z ∈ bnd bs ex ks → z ∈ T := fun z m => by
  obtain ⟨b, mb, rfl, h1, h2, h3⟩ := bnd_new m
  by_cases q : b.name ∈ T
  · exact q
  · have := c b mb q h2
    rw [boundB_mono ok hk h3] at this
    cases this
/-- how many bonds are not yet in -/
def left (bs : List Bd) (ks : List Str) : Nat := (bs.filter fun b => !decide (b.name ∈ ks)).length
theorem left_lt {bs : List Bd} {ex ks : List Str} (h : bnd bs ex ks ≠ []) : left bs (ks ++ bnd bs ex ks) < left bs ks := by
  obtain ⟨z, m⟩ : ∃ z, z ∈ bnd bs ex ks := by
    cases q : bnd bs ex ks with
    | nil => exact absurd q h
    | cons z _ => exact ⟨z, List.mem_cons_self ..⟩
  obtain ⟨b, mb, rfl, h1, _, _⟩ := bnd_new m
  unfold left
  have sub : ((bs.filter fun b => !decide (b.name ∈ ks ++ bnd bs ex ks))).Sublist (bs.filter fun b => !decide (b.name ∈ ks)) := filter_sub (fun o ho => by
    simp only [Bool.not_eq_true', decide_eq_false_iff_not] at ho ⊢
    exact fun z => ho (List.mem_append_left _ z)) _
  rcases Nat.lt_or_ge ((bs.filter fun b => !decide (b.name ∈ ks ++ bnd bs ex ks)).length) ((bs.filter fun b => !decide (b.name ∈ ks)).length) with q | q
  · exact q
  · have e := sub.eq_of_length_le q
    have : b ∈ bs.filter fun b => !decide (b.name ∈ ks) := List.mem_filter.mpr ⟨mb, by simp [h1]⟩
    rw [← e] at this
    have := (List.mem_filter.mp this).2
    simp [m] at this
theorem left_le (bs : List Bd) (ks : List Str) : left bs ks ≤ bs.length := List.length_filter_le ..
theorem bnd_len (bs : List Bd) (ex ks : List Str) : (bnd bs ex ks).length ≤ bs.length := by
  unfold bnd
  rw [List.length_map]
  exact Nat.le_trans (List.length_filter_le ..) (List.length_filter_le ..)
end Cs
set_option maxHeartbeats 4000000
namespace Cs
open PySem PySem.Spec PyProof.Rows L2
section
variable {X : Cx} {k : Nat} {x : Str} {ps : List Str} {sp : Sp} {p pos : Pos} {e : Expr} {es : List Expr} {t : TA}
/-- a def that may be called with its last argument left out -/
def CalD (P : Program) (w : World) (K : PySem.W.Frag) (mg : Str → Option Value) (base : Heap) (k : Nat) (x : Str) (ps : List Str) (dvs : List V) (sp : Sp) : Prop :=
  ∃ (f : Addr) (fd : FuncData) (ds : List Value), FnOk P w K mg base CX0 k f fd ps sp ∧ mg x = some (.ref f) ∧ PySem.W.keepIn K (.ref f) = true ∧ Binds K fd ps ds ∧ Vals dvs ds
theorem CalD.mono {P : Program} {w : World} {K : PySem.W.Frag} {mg : Str → Option Value} {base : Heap} {j k : Nat} {dvs : List V} (c : CalD P w K mg base j x ps dvs sp) (h : j ≤ k) : CalD P w K mg base k x ps dvs sp := by
  obtain ⟨f, fd, ds, F, g⟩ := c
  exact ⟨f, fd, ds, F.mono h, g⟩
theorem pe_calD {dvs : List V} (c : CalD X.prog X.w X.K X.mg X.base k x ps dvs sp) (hr : Room k X.A) (hg : Gl X x) (ha : PA X (e :: es) t) (hdb : (x == ("__debug__" : Str)) = false := by decide)
    (he : starEach (e :: es) X.env = (false, eval e X.env) :: starEach es X.env := by rfl) (hpl : (backTo pos (starEach es X.env)).any (·.1) = false := by rfl) :
    PE X (.Call (.Name x p) (e :: es) [] pos) (tCall sp dvs E0 t) := by
  obtain ⟨f, fd, ds, F, g, kp, b, hd⟩ := c
  exact pe_call F hr hg g kp b hd pass0 ha hdb he hpl
end
/-! ### rules of a block, the written part told -/
section
variable {X : Cx} {K : PySem.W.Frag} {e : Expr} {ta : TE} {f : Str} {pos : Pos}
theorem pe_fldK (hk : X.K = K) (he : PE X e ta) (hb : attributeBase e f X.env (eval e X.env) = eval e X.env) : PE X (.Attribute e f pos) (tFld K ta f) := hk ▸ pe_fld he hb
theorem op_inK (hk : X.K = K) : OpR X (compareOp .In) (rIn K false) := hk ▸ op_in_seq
theorem op_niK (hk : X.K = K) : OpR X (compareOp .NotIn) (rIn K true) := hk ▸ op_notIn_seq
theorem op_eqDK (hk : X.K = K) (hu : X.A.units + 64 < cLine) : OpR X (compareOp .Eq) (rEqD K) := hk ▸ op_eqD hu
theorem op_neDK (hk : X.K = K) (hu : X.A.units + 64 < cLine) : OpR X (compareOp .NotEq) (rNeD K) := hk ▸ op_neD hu
theorem ix_lstK (h : X.K = K) : IxR X (rIxL K) := h ▸ ix_list
theorem ix_tupK (h : X.K = K) : IxR X (rIxT K) := h ▸ ix_tup
theorem pt_truthK (hk : X.K = K) {a : Expr} (ha : PE X a ta) (he : ∀ whole, isTrue a X.env whole = (do let v ← whole; standAt a.pos; holding [v] (truthy v))) : PT X a (fun σ H Q => ta σ H fun x H' => ∃ k, TruV K x H' k ∧ Q k H') := hk ▸ pt_truth ha he
end
/-! ### name = {..: .. for ..}, the name a local -/
section
variable {X : Cx}
theorem sw_trueD {kx vx : Expr} {gs : List Comprehension} {scope : Scope} {pos py : Pos} {y : Str} {l : Nat} {env : Env} (hk : env.scope.kind = .function) (hy : env.scope.names.lookup y = some .local) (hl : (py.line == pos.line) = true)
    (ha : (scope.names.any fun (n, k) => n == y && (k == .local || k == .cell)) = false) : swapsWith (.DictComp kx vx gs scope pos) (some (.Name y py)) l env = pure true := by
  have e1 : env.kindOf y = some .local := hy
  have e2 : env.blockKind = .function := by unfold Env.blockKind; rw [hk]; rfl
  unfold swapsWith
  simp only [e2, e1, ha, Expr.pos, hl] <;> rfl
theorem ps_setDc {i : Nat} {y : Str} {py : Pos} {kx vx tg iter : Expr} {ifs : List Expr} {scope : Scope} {own : List (Str × Nat)} {pos spos : Pos} {wi : TI} {g : TG} {tt : TT} {tk tv : TE} (hc : X.calm = true) (hN : X.N.Nodup) (hy : X.N[i]? = some y) (hyl : X.env.scope.names.lookup y = some .local)
    (hsw : swapsWith (.DictComp kx vx [⟨tg, iter, ifs, 0⟩] scope pos) (some (.Name y py)) spos.line X.env = pure true) (hi : PI X tg iter wi) (ok : BlkOk X.N X.env.scope scope own)
    (hg : ∀ (s : Shared) (H : Hp) (C : Addr) (cl : List (Str × Addr)) (fp : List Addr), PG (X.blk s H scope (compEnvC scope cl C X.env) fp) tg g) (ht : ∀ (s : Shared) (H : Hp) (C : Addr) (cl : List (Str × Addr)) (fp : List Addr), PTs (X.blk s H scope (compEnvC scope cl C X.env) fp) ifs tt)
    (hk : ∀ (s : Shared) (H : Hp) (C : Addr) (cl : List (Str × Addr)) (fp : List Addr), PE (X.blk s H scope (compEnvC scope cl C X.env) fp) kx tk)
    (he : ∀ (s : Shared) (H : Hp) (C : Addr) (cl : List (Str × Addr)) (fp : List Addr), PE (X.blk s H scope (compEnvC scope cl C X.env) fp) vx tv) (hs : ∀ x, foldedSetIterable iter X.env x = pure x := by intro _; rfl) :
    PS X (.Assign [.Name y py] (.DictComp kx vx [⟨tg, iter, ifs, 0⟩] scope pos) spos) (tAsg (tDc wi g tt tk tv (own.map (·.2))) (gName i)) := by
  refine ⟨fun pins s σ H D I h => ?_⟩
  rw [exec_Assign_Name_used _ _ _ _ hsw]
  refine wpAny_bind (wpAny_standAt (wpAny_bind ?_))
  show wpAny _ X.A (do let _ ← comprehension (.DictComp kx vx [⟨tg, iter, ifs, 0⟩] scope pos) scope X.env (firstIterPos [⟨tg, iter, ifs, 0⟩] pos) newDict false (eval iter X.env) (some (assign (.Name y py) X.env))) _ _ s
  have h : tDc wi g tt tk tv (own.map (·.2)) σ H (fun x H1 => gName i x σ H1 D.nx) := h
  refine wpAny_bind (thn (dc_core (Qf := fun _ s' => SP X pins D .next s') hc hN I hi ok hg ht hk he hs h fun L C s' m H' I' q hn f => ?_) fun _ s' hq => wpAny_pure (wpAny_pure hq))
  show wpAny _ _ (assign (.Name y py) X.env (.ref L)) _ _ _
  refine wpAny_assign_Name (store_ok2 (v := V.ref L) I' hN hy (.inl hyl) rfl (fun s2 I2 ⟨a, sb, ha⟩ => ?_) (.inr hyl))
  obtain ⟨f0, f1, f2, f3, f4, f5⟩ := f
  have ne : C ≠ a := ha.elim (fun z => by rw [z]; exact f1) fun z e => f4 y a z e.symm
  exact ⟨m, hn.sameBut sb ne, fun h3 sb3 => ⟨_, H', I2.turned (t' := s2.toks) (fun b o hb e => (sb3.2 b hb).trans e) f0 f1 f3 f4 f5, q⟩⟩
end
end Cs
set_option maxHeartbeats 4000000
namespace Cs
open PySem PySem.Spec PyProof.Rows L2
section
variable {α β γ δ : Type} {W : Wd} {K : PySem.W.Frag} {ta tb tc : TE} {t : Ty α} {u : Ty β} {x x' : α} {y : β} {tt uu : TT} {ar ak : TA} {fs : List SF} {i : Nat} {E : XK} {ts us vs : TS} {D : Ends} {g : TG} {as : α → List (Nat × SF)} {wi : TI}
theorem Ev.xe (h : Ev W ta t x) : Evx W ta t fun y => y = x := h.x rfl
theorem evx_to {P : α → Prop} {P' : β → Prop} (h : Evx W ta t P) (e : ∀ x, P x → ∃ y, P' y ∧ ∀ H v, t.r H v x → u.r H v y) : Evx W ta u P' := fun σ H o Q q => h σ H o Q fun v x H' p g r => by
  obtain ⟨y, py, c⟩ := e x p
  exact q v y H' py g (c _ _ r)
theorem go_setx {P : α → Prop} (h : Evx W ta t P) (k : ∀ x, P x → Go (W.at i (t.is x)) us D) : Go W (tSeq (tAsg ta (gName i)) us) D := fun σ H o => h σ H o _ fun v x H1 p g r => k x p _ _ (g.ok.put r)
theorem go_set1x {P : α → Prop} (h : Evx W ta t P) (k : ∀ x, P x → ∀ σ H, Ok (W.at i (t.is x)) σ H → D.nx σ H) : Go W (tAsg ta (gName i)) D := fun σ H o => h σ H o _ fun v x H1 p g r => k x p _ _ (g.ok.put r)
theorem go_ifx {P : Bool → Prop} (h : Etx W tt P) (h1 : P true → Go W ts D) (h2 : P false → Go W us D) : Go W (tIfS tt ts us) D := fun σ H o => h σ H o _ fun b H1 p g => by
  cases b with
  | true => exact h1 p σ H1 g.ok
  | false => exact h2 p σ H1 g.ok
theorem go_ifrx {P : Bool → Prop} (h : Etx W tt P) (h1 : P true → Go W ts { D with nx := vs D }) (h2 : P false → Go W vs D) : Go W (tSeq (tIfS tt ts tNext) vs) D := go_ifx h h1 h2
/-- an if whose ends meet -/
theorem go_ifj {ι : Type} {P : Bool → Prop} (Wj : ι → Wd) (Pj : ι → Prop) (h : Etx W tt P) (h1 : P true → ∀ nx : L2.St → Hp → Prop, (∀ c, Pj c → ∀ σ H, Ok (Wj c) σ H → nx σ H) → Go W ts { D with nx := nx }) (h2 : P false → ∃ c, Pj c ∧ Wk W (Wj c)) (hk : ∀ c, Pj c → Go (Wj c) vs D) : Go W (tSeq (tIfS tt ts tNext) vs) D :=
  go_ifrx h (fun p => h1 p (vs D) fun c pc σ H o => hk c pc σ H o) fun p => by
    obtain ⟨c, pc, w⟩ := h2 p
    exact go_wk w (hk c pc)
theorem evx_ixL {xs : List α} {P : Int → Prop} {R : α → Prop} {t : Ty α} (h : Ev W ta (tLs K t) xs) (hb : Evx W tb tInt P) (e : ∀ n, P n → ∃ x, R x ∧ atI xs n = some x) : Evx W (tOp (rIxL K) ta tb) t R := fun σ H o Q q =>
  h σ H o _ fun v H1 g1 r1 => hb σ H1 g1.ok _ fun v2 n H2 p2 g2 r2 => by
    obtain ⟨p, vs, ev, s, al⟩ := (tLs K t).mono g2.up r1
    obtain ⟨x, rx, e⟩ := e n p2
    have : ∃ z, atI vs n = some z ∧ t.r (hid W.S H2) z x := by
      unfold atI at e ⊢
      rw [al.length]
      cases c : ixN xs.length n with
      | none => rw [c] at e; cases e
      | some k =>
        rw [c] at e
        exact al.get e
    obtain ⟨z, hz, rz⟩ := this
    exact ⟨p, vs, n, z, ev, r2, (SqL.of (hid_sub _ _ s)), hz, q z x H2 rx (g1.trans g2) rz⟩
/-! ### arguments of several answers -/
def Eax (W : Wd) (ta : TA) {α : Type} (F : α → List SF) (P : α → Prop) : Prop := ∀ σ H, Ok W σ H → ∀ Q : List V → Hp → Prop, (∀ vs c H', P c → Go1 W σ H H' → Fits (hid W.S H') (F c) vs → Q vs H') → ta σ H Q
theorem Ea.xe (h : Ea W ar fs) : Eax W ar (fun _ : Unit => fs) (fun _ => True) := fun σ H o Q q => h σ H o Q fun vs H' g f => q vs () H' trivial g f
theorem eax_consx {P : α → Prop} {F : β → List SF} {R : β → Prop} (ha : Evx W ta t P) (hr : Eax W ar F R) : Eax W (tCons ta ar) (fun c : α × β => t.is c.1 :: F c.2) (fun c => P c.1 ∧ R c.2) := fun σ H o Q q =>
  ha σ H o _ fun v x H1 p g1 r1 => hr σ H1 g1.ok _ fun vs c H2 pc g2 r2 => q (v :: vs) (x, c) H2 ⟨p, pc⟩ (g1.trans g2) ⟨t.mono g2.up r1, r2⟩
theorem eax_cons {F : β → List SF} {R : β → Prop} (ha : Ev W ta t x) (hr : Eax W ar F R) : Eax W (tCons ta ar) (fun c : β => t.is x :: F c) R := fun σ H o Q q =>
  ha σ H o _ fun v H1 g1 r1 => hr σ H1 g1.ok _ fun vs c H2 pc g2 r2 => q (v :: vs) c H2 pc (g1.trans g2) ⟨t.mono g2.up r1, r2⟩
/-- as ok_N, a def with defaults -/
theorem ok_ND {P : Program} {w : World} {mg : Str → Option Value} {base : Heap} {nm qual : Str} {st : Stmt} {f : Addr} {fd : FuncData} {N ps : List Str} {k : Nat} {C : α → List RS} {A : α → List SF} {wt : Ty β} {pre : α → Prop} {post : α → β → Prop} {dvs : List V} {kws : List (Str × V)}
    (F : FunD K nm qual (defArgs st) (defBody st) (defScope st) dvs kws f fd) (S : FnScope N ps (defScope st)) (hl : ∀ x, (A x).length = ps.length)
    (body : ∀ (cdv : Value) (A' : Around) (outer : List Env) (s : Shared) (H0 : Hp) (S : List Addr) (x : α) (Q : VK) (E : XK), Room k (A'.deeper (envOfC qual (defScope st) s.heap.objs.size f cdv)) → pre x → Rt (C x) S H0 wt (post x) Q →
      ∃ t, PSs (cxOf CX0 P w K mg base N qual (defScope st) f cdv A' outer s H0 E).nox (defBody st) t ∧ Go ⟨H0, fps (C x), S, C x, [], (A x).map some ++ List.replicate (N.length - ps.length) none⟩ t { nx := fun _ H' => Q .non H', rt := Q }) :
    FnOk P w K mg base CX0 (k + 1) f fd ps (spN C A wt pre post) := by
  refine F.ok S (fun vs H Q E h => ?_) (fun cdv A' outer s H vs Q E hr h => ?_)
  · obtain ⟨S', x, _, _, _, _, ft, _⟩ := h
    rw [ft.length, hl]
  · obtain ⟨S', x, al, nd, sub, cc, ft, hp, out⟩ := h
    obtain ⟨t, h1, h2⟩ := body cdv A' outer s H S' x Q E hr hp (fun v y H' => out v y H')
    refine ⟨t, h1.nox, h2 _ _ ⟨nd, fun a m => ⟨sub a m, .inl m⟩, cc, sub, al, Bt.refl, ?_, (fun f m => nomatch m), fun i f' q => ?_⟩⟩
    · show (L2.start N vs).length = ((A x).map some ++ List.replicate (N.length - ps.length) none).length
      unfold L2.start
      have e1 := ft.length
      have e2 := hl x
      simp only [List.length_append, List.length_map, List.length_replicate]
      omega
    · have q : ((A x).map some ++ List.replicate (N.length - ps.length) none)[i]? = some (some f') := q
      unfold L2.start
      by_cases l : i < (A x).length
      · rw [List.getElem?_append_left (by simpa using l), List.getElem?_map] at q
        cases c : (A x)[i]? with
        | none => rw [c] at q; cases q
        | some z =>
          rw [c] at q
          obtain rfl : z = f' := Option.some.inj (Option.some.inj q)
          obtain ⟨v, hv, hz⟩ := ft.get c
          exact ⟨v, by rw [List.getElem?_append_left (by simpa [ft.length] using l), List.getElem?_map, hv]; rfl, hz⟩
      · rw [List.getElem?_append_right (by simpa using l)] at q
        have := List.mem_of_getElem? q
        rw [List.mem_replicate] at this
        exact absurd this.2 (by simp)
/-- what the written part has of a def with defaults: it may be called with all or without them -/
def FunDG (K : PySem.W.Frag) (mg : Str → Option Value) (x : Str) (st : Stmt) (ps : List Str) (dvs : List V) : Prop :=
  ∃ (f : Addr) (fd : FuncData) (ds : List Value), FunD K x x (defArgs st) (defBody st) (defScope st) dvs [] f fd ∧ mg x = some (.ref f) ∧ PySem.W.keepIn K (.ref f) = true ∧ Binds K fd ps [] ∧ Binds K fd ps ds ∧ Vals dvs ds
theorem Cal.ofD {P : Program} {w : World} {mg : Str → Option Value} {base : Heap} {x : Str} {st : Stmt} {ps : List Str} {k : Nat} {sp : Sp} {dvs : List V} (F : FunDG K mg x st ps dvs) (h : ∀ {f : Addr} {fd : FuncData}, FunD K x x (defArgs st) (defBody st) (defScope st) dvs [] f fd → FnOk P w K mg base CX0 k f fd ps sp) : Cal P w K mg base k x ps sp ∧ CalD P w K mg base k x ps dvs sp := by
  obtain ⟨f, fd, ds, F, g, kp, b, bd, vd⟩ := F
  exact ⟨⟨f, fd, h F, g, kp, b⟩, ⟨f, fd, ds, h F, g, kp, bd, vd⟩⟩
theorem FunDG.mk {mg : Str → Option Value} {h : Heap} {x : Str} {st : Stmt} {ps : List Str} {dvs : List V} {f T : Addr} {od an dT : Option Addr} {sl slT : Array (Option Value)} {its : Array Value} {oc kV dc pm cd ct cT : Value} {nT : Nat} (n : Nat)
    (hb0 : ∀ (T : Addr) (kV doc pm : Value) (an : Option Addr) (cdv ct : Value) (us its : List Value), us.length = ps.length → its.length = dvs.length →
      ∃ k, bindArgs (PySem.W.fnOf x x (defArgs st) (defBody st) (defScope st) (.ref T) kV doc pm an cdv ct) ⟨us, []⟩ = seqItems? (.ref T) >>= k ∧ k (some its.toArray) = pure (ps.zip (us ++ its.drop dvs.length)))
    (hb1 : ∀ (T : Addr) (kV doc pm : Value) (an : Option Addr) (cdv ct : Value) (us its : List Value), us.length = n → its.length = dvs.length →
      ∃ k, bindArgs (PySem.W.fnOf x x (defArgs st) (defBody st) (defScope st) (.ref T) kV doc pm an cdv ct) ⟨us, []⟩ = seqItems? (.ref T) >>= k ∧ k (some its.toArray) = pure (ps.zip (us ++ its.drop 0)))
    (X : K.In h) (G : h.Ns mainGlobals mg)
    (a : PySem.W.nsIn K mainGlobals x = some (some (.ref f))) (l : K.lookup f = some ⟨oc, od, .func (PySem.W.fnOf x x (defArgs st) (defBody st) (defScope st) (.ref T) kV dc pm an cd ct), sl⟩) (c : PySem.W.codeIn K cd x = true) (k : PySem.W.keepIn K (.ref f) = true)
    (lT : K.lookup T = some ⟨cT, dT, .seq its nT, slT⟩) (hd : dvs ≠ []) (hv : Vals dvs its.toList) (hn : n + dvs.length = ps.length) : FunDG K mg x st ps dvs := by
  have F : FunD K x x (defArgs st) (defBody st) (defScope st) dvs [] f _ := ⟨⟨oc, od, .ref T, kV, dc, pm, an, cd, ct, sl, rfl, l, c, .inr ⟨hd, T, _, its.toList, nT, rfl, lT, rfl, hv⟩, .inl rfl⟩, k⟩
  obtain ⟨d0, v0, B0⟩ := F.binds1 (ps := ps) ps.length dvs.length hd (by omega) hb0
  obtain ⟨d1, v1, B1⟩ := F.binds1 (ps := ps) n 0 hd (by omega) hb1
  rw [List.drop_length] at v0
  cases v0
  exact ⟨f, _, d1, F, PySem.W.mg_of X G a, k, B0, B1, v1⟩
/-! ### new instances -/
def cIns (C dx : Addr) (known : List (Str × SF)) : CF := ⟨fun F o => ∃ fs, o = .ins C dx fs ∧ fs.length ≤ known.length ∧ FldAt F fs known, fun e ⟨fs, h, l, k⟩ => ⟨fs, h, l, fun n f m => by
  obtain ⟨v, h1, h2⟩ := k n f m
  exact ⟨v, h1, f.mono e h2⟩⟩⟩
/-- what `__init__` promises: the new instance has these attributes -/
def spI (C : Addr) (A : α → List SF) (pre : α → Prop) (flds : α → List (Str × SF)) : Sp := fun vs H Q _ => ∃ (S : List Addr) (x : α) (a dx : Addr) (ws : List V), vs = .ref a :: ws ∧ a ∈ S ∧ (∀ b ∈ S, H b ≠ none) ∧ H a = some (.ins C dx []) ∧ Fits (hid S H) (A x) ws ∧ pre x ∧
  ∀ H' fs, Bt [a] H H' → H' a = some (.ins C dx fs) → FldAt (hid S H') fs (flds x) → Q .non H'
theorem ok_I {P : Program} {w : World} {mg : Str → Option Value} {base : Heap} {nm qual : Str} {st : Stmt} {f : Addr} {fd : FuncData} {N ps : List Str} {k : Nat} {C : Addr} {A : α → List SF} {pre : α → Prop} {flds : α → List (Str × SF)} {p0 : Str}
    (F : Fun K nm qual st f fd) (S : FnScope N (p0 :: ps) (defScope st)) (hl : ∀ x, (A x).length = ps.length)
    (body : ∀ (cdv : Value) (A' : Around) (outer : List Env) (s : Shared) (H0 : Hp) (S : List Addr) (x : α) (a dx : Addr) (Q : VK) (E : XK), Room k (A'.deeper (envOfC qual (defScope st) s.heap.objs.size f cdv)) → pre x → a ∈ S →
      ∃ t, PSs (cxOf CX0 P w K mg base N qual (defScope st) f cdv A' outer s H0 E).nox (defBody st) t ∧ ∀ nx : L2.St → Hp → Prop, (∀ known F G σ H, Ok ⟨H0, [a], S, [cell a (cIns C dx known)], F, G⟩ σ H → (∀ p, p ∈ flds x → p ∈ known) → nx σ H) → Go ⟨H0, [a], S, [cell a (cIns C dx [])], [], some (tRf.is a) :: ((A x).map some ++ List.replicate (N.length - (ps.length + 1)) none)⟩ t { nx := nx, rt := Q }) :
    FnOk P w K mg base CX0 (k + 1) f fd (p0 :: ps) (spI C A pre flds) := by
  refine F.ok S (fun vs H Q E h => ?_) (fun cdv A' outer s H vs Q E hr h => ?_)
  · obtain ⟨S', x, a, dx, ws, rfl, _, _, _, ft, _⟩ := h
    show ws.length + 1 = ps.length + 1
    rw [ft.length, hl]
  · obtain ⟨S', x, a, dx, ws, rfl, am, al, ha, ft, hp, out⟩ := h
    obtain ⟨t, h1, h2⟩ := body cdv A' outer s H S' x a dx Q E hr hp am
    have fa : fps [cell a (cIns C dx ([] : List (Str × SF)))] = [a] := rfl
    refine ⟨t, h1, h2 _ (fun known F' G' σ H' o sub => ?_) _ _ ⟨by rw [fa]; simp, fun b m => ?_, fun r m => ?_, fun b m => ?_, al, Bt.refl, ?_, (fun f m => nomatch m), fun i f' q => ?_⟩⟩
    · obtain ⟨ob, hob, fs, rfl, _, hf⟩ := o.at_ (cell a (cIns C dx known)) (List.mem_cons_self ..)
      exact out H' fs o.bt hob fun n f m => hf n f (sub _ m)
    · rw [fa] at m
      rw [List.mem_singleton.mp m]
      exact ⟨am, .inl (List.mem_cons_self ..)⟩
    · rw [List.mem_singleton.mp m]
      exact ⟨_, ha, [], rfl, Nat.le_refl _, fun n f z => nomatch z⟩
    · rw [List.mem_singleton.mp m]
      exact am
    · show (L2.start N (.ref a :: ws)).length = (some (tRf.is a) :: ((A x).map some ++ List.replicate (N.length - (ps.length + 1)) none)).length
      unfold L2.start
      have e1 := ft.length
      have e2 := hl x
      simp only [List.length_append, List.length_map, List.length_replicate, List.length_cons]
      omega
    · have q : (some (tRf.is a) :: ((A x).map some ++ List.replicate (N.length - (ps.length + 1)) none))[i]? = some (some f') := q
      unfold L2.start
      cases i with
      | zero =>
        obtain rfl : tRf.is a = f' := by simpa using q
        exact ⟨.ref a, rfl, rfl⟩
      | succ i =>
        have q : ((A x).map some ++ List.replicate (N.length - (ps.length + 1)) none)[i]? = some (some f') := by simpa using q
        rw [List.map_cons, List.cons_append, List.getElem?_cons_succ]
        by_cases l : i < (A x).length
        · rw [List.getElem?_append_left (by simpa using l), List.getElem?_map] at q
          cases c : (A x)[i]? with
          | none => rw [c] at q; cases q
          | some z =>
            rw [c] at q
            obtain rfl : z = f' := Option.some.inj (Option.some.inj q)
            obtain ⟨v, hv, hz⟩ := ft.get c
            exact ⟨v, by rw [List.getElem?_append_left (by simpa [ft.length] using l), List.getElem?_map, hv]; rfl, hz⟩
        · rw [List.getElem?_append_right (by simpa using l)] at q
          have := List.mem_of_getElem? q
          rw [List.mem_replicate] at this
          exact absurd this.2 (by simp)
/-- self.n = e -/
theorem fld_write {C dx a : Addr} {n : Str} {known : List (Str × SF)} {R : List RS} {s : Nat} {nx : L2.St → Hp → Prop} (hs : W.G[s]? = some (some (tRf.is a))) (hL : W.L = cell a (cIns C dx known) :: R) (h : Ev W ta t x) (cl : Cls K C) (na : NoAttr K C n) (hn : (known.map (·.1)).contains n = false) (hl : known.length < 900)
    (k : ∀ σ H, Ok { W with L := cell a (cIns C dx ((n, t.is x) :: known)) :: R } σ H → nx σ H) (hD : D.nx = nx) : Go W (sFld K (tVar s) ta n) D := fun σ H o => h σ H o _ fun v H1 g r => by
  obtain ⟨w, h1, rfl⟩ := g.ok.slots s _ hs
  obtain ⟨ob, hob, fs, rfl, hlen, hf⟩ := g.ok.at_ (cell a (cIns C dx known)) (by rw [hL]; exact List.mem_cons_self ..)
  refine ⟨.ref a, h1, a, C, dx, fs, rfl, hob, cl, na, by omega, ?_⟩
  rw [hD]
  refine k _ _ (g.ok.write (ψ := cIns C dx ((n, t.is x) :: known)) hL ⟨_, rfl, Nat.le_trans (length_putF n v fs) (by rw [List.length_cons]; omega), fun m f z => ?_⟩).ok
  rw [lookup_putF]
  rcases List.mem_cons.mp z with z | z
  · obtain ⟨rfl, rfl⟩ := Prod.mk.inj z
    exact ⟨v, if_pos rfl, r⟩
  · have ne : m ≠ n := fun e => by
      have : (known.map (·.1)).contains n = true := by
        rw [List.contains_eq_mem, decide_eq_true_eq]
        exact List.mem_map.mpr ⟨(m, f), z, e⟩
      rw [hn] at this; cases this
    obtain ⟨w, q1, q2⟩ := hf m f z
    exact ⟨w, by rw [if_neg ne]; exact q1, q2⟩
theorem go_fldS {C dx a : Addr} {n : Str} {known : List (Str × SF)} {R : List RS} {s : Nat} (hs : W.G[s]? = some (some (tRf.is a))) (hL : W.L = cell a (cIns C dx known) :: R) (h : Ev W ta t x) (cl : Cls K C) (na : NoAttr K C n) (k : Go { W with L := cell a (cIns C dx ((n, t.is x) :: known)) :: R } us D) (hn : (known.map (·.1)).contains n = false := by rfl) (hl : known.length < 900 := by simp)
    : Go W (tSeq (sFld K (tVar s) ta n) us) D := fun σ H o => fld_write hs hL h cl na hn hl (fun σ' H' o' => k σ' H' o') rfl σ H o
theorem go_fldS1 {C dx a : Addr} {n : Str} {known : List (Str × SF)} {R : List RS} {s : Nat} (hs : W.G[s]? = some (some (tRf.is a))) (hL : W.L = cell a (cIns C dx known) :: R) (h : Ev W ta t x) (cl : Cls K C) (na : NoAttr K C n) (k : ∀ σ H, Ok { W with L := cell a (cIns C dx ((n, t.is x) :: known)) :: R } σ H → D.nx σ H) (hn : (known.map (·.1)).contains n = false := by rfl) (hl : known.length < 900 := by simp)
    : Go W (sFld K (tVar s) ta n) D := fld_write hs hL h cl na hn hl k rfl
/-- C(e, .., k = v, ..) -/
theorem evx_makeK {n m : Nat} {C : Addr} {A : γ → List SF} {pre : γ → Prop} {flds : γ → List (Str × SF)} {gV : List V → List V → List V} {F1 : α → List SF} {F2 : β → List SF} {P1 : α → Prop} {P2 : β → Prop} (z : α → β → γ)
    (ha : Eax W ar F1 P1) (hk : Eax W ak F2 P2) (hn : ∀ c, (F1 c).length = n) (hm : ∀ c, (F2 c).length = m) (hg : ∀ H v c d us ws, Fits H (F1 c) us → Fits H (F2 d) ws → ∃ os, gV (v :: us) ws = v :: os ∧ Fits H (A (z c d)) os) (hp : ∀ c d, P1 c → P2 d → pre (z c d)) :
    Evx W (tMakeK C n m (spI C A pre flds) gV E ar ak) (tOb C flds) (fun y => ∃ c d, P1 c ∧ P2 d ∧ y = z c d) := fun σ H o Q q =>
  ha σ H o _ fun us c H1 pc g1 f1 => hk σ H1 g1.ok _ fun ws d H2 pd g2 f2 => by
    refine ⟨by rw [f1.length, hn], by rw [f2.length, hm], fun a dx na nd ne => ?_⟩
    obtain ⟨os, e, ft⟩ := hg _ (.ref a) c d us ws (f1.mono g2.up) f2
    rw [e]
    have nd' : (upd H2 dx (.own a)) a = none := by rw [upd_ne (Ne.symm ne)]; exact na
    have s1 : Same H2 (upd H2 dx (.own a)) := Same.new nd
    have s2 : Same H2 (upd (upd H2 dx (.own a)) a (.ins C dx [])) := s1.trans (Same.new nd')
    have off : a ∉ W.S := g2.ok.off na
    have h3 : hid (a :: W.S) (upd (upd H2 dx (.own a)) a (.ins C dx [])) = hid (a :: W.S) (upd H2 dx (.own a)) := hid_upd (List.mem_cons_self ..)
    have up1 : Same (hid W.S H2) (hid (a :: W.S) (upd (upd H2 dx (.own a)) a (.ins C dx []))) := by
      rw [h3]
      exact Bt.hid (M := []) (N := [a]) (Bt.of s1) (fun b m => nomatch m) (fun b m => .inr (by rw [List.mem_singleton.mp m]; exact na))
    refine ⟨a :: W.S, z c d, a, dx, os, rfl, List.mem_cons_self .., fun b m => ?_, upd_same, ft.mono up1, hp c d pc pd, fun H' fs bt hf fl => ?_⟩
    · rcases List.mem_cons.mp m with m | m
      · rw [m, upd_same]; simp
      · intro z
        have := g2.ok.al b m
        cases q : H2 b with
        | none => exact this q
        | some ob => rw [s2 b ob q] at z; cases z
    · refine ⟨rfl, ?_⟩
      have e2 : Same H2 H' := fun b ob q => bt b ob (fun z => by rw [List.mem_singleton.mp z, na] at q; cases q) (s2 b ob q)
      refine q _ _ H' ⟨c, d, pc, pd, rfl⟩ ((g1.trans g2).trans (g2.ok.go e2)) ⟨a, dx, fs, rfl, by rw [hid_of off]; exact hf, fun nm f mm => ?_⟩
      obtain ⟨v, q1, q2⟩ := fl nm f mm
      exact ⟨v, q1, f.mono (hid_less fun b z => List.mem_cons_of_mem _ z) q2⟩
/-! ### lists that grow, of several answers -/
theorem go_ms (k : (∀ a, a ∈ W.M → a ∈ W.S) → Go W ts D) : Go W ts D := fun σ H o => k o.ms σ H o
theorem go_newN {xs : List α} (h : El W ar t xs) (hl : xs.length ≤ sizeLine := by decide) (k : ∀ p, p ∉ W.S → Go ⟨W.H0, W.M, p :: W.S, cell p (cLs t xs) :: W.L, W.F, W.G.set i (some (tRf.is p))⟩ us D) : Go W (tSeq (tAsg (tLst ar) (gName i)) us) D := fun σ H o =>
  h σ H o _ fun vs H1 g1 r1 => ⟨by rw [r1.length]; exact hl, fun p np => k p (g1.ok.off np) _ _ (Ok.put (i := i) (f := tRf.is p) (g1.ok.cell (ψ := cLs t xs) np ⟨vs, rfl, r1⟩).1 rfl)⟩
theorem go_appx {p : Addr} {xs : List α} {R : List RS} {P : α → Prop} (hp : W.G[i]? = some (some (tRf.is p))) (hL : W.L.Perm (cell p (cLs t xs) :: R)) (ha : Evx W ta t P) (hl : xs.length < sizeLine) (k : ∀ x, P x → Go { W with L := cell p (cLs t (xs ++ [x])) :: R } us D) :
    Go W (tSeq (tDrop (tBM K "list" rAppend (tVar i) (tCons ta tNil))) us) D := fun σ H o => by
  obtain ⟨v, h1, h2⟩ := o.slots i _ hp
  obtain rfl : v = .ref p := h2
  have mem : cell p (cLs t xs) ∈ W.L := hL.mem_iff.mpr (List.mem_cons_self ..)
  obtain ⟨ob, hob, vs, rfl, _⟩ := o.at_ _ mem
  refine ⟨.ref p, h1, .inl ⟨rfl, vs, SqL.of hob⟩, ?_⟩
  refine ha σ H o _ fun y x H1 px g1 ry => ?_
  obtain ⟨ob, hob, ws, rfl, al⟩ := g1.ok.at_ _ mem
  exact ⟨p, ws, y, rfl, rfl, hob, by rw [al.length]; exact hl, k x px _ _ ((g1.ok.perm hL).write (ψ := cLs t (xs ++ [x])) rfl ⟨_, rfl, al.app (ws := [y]) (ys := [x]) ⟨ry, trivial⟩⟩).ok⟩
theorem go_app1x {p : Addr} {xs : List α} {R : List RS} {P : α → Prop} (hp : W.G[i]? = some (some (tRf.is p))) (hL : W.L.Perm (cell p (cLs t xs) :: R)) (ha : Evx W ta t P) (hl : xs.length < sizeLine) (k : ∀ x, P x → ∀ σ H, Ok { W with L := cell p (cLs t (xs ++ [x])) :: R } σ H → D.nx σ H) :
    Go W (tDrop (tBM K "list" rAppend (tVar i) (tCons ta tNil))) D := go_appx (us := fun D σ H => D.nx σ H) hp hL ha hl k
/-! ### walks of several answers -/
def Ivx {α : Type} (W : Wd) (wi : TI) (t : Ty α) (X : List α → Prop) : Prop := ∀ σ H, Ok W σ H → ∀ R : It → Hp → Prop, (∀ xs J H1 f, X xs → Go1 W σ H H1 → f.p (hid W.S H1) → Wks J f t xs → R J H1) → wi σ H R
theorem ivx_range1 {P : Int → Prop} (h : Evx W ta tInt P) (h1 : ∀ n, P n → -(2 ^ 62) ≤ n ∧ n < 2 ^ 62) : Ivx W (iRng1 (tCons ta tNil)) tInt (fun xs => ∃ n : Int, P n ∧ xs = (List.range n.toNat).map fun (i : Nat) => (i : Int)) := fun σ H o R q =>
  evx_range1 (R' := fun _ => True) o h h1 fun n J H1 f p g z wk => q _ J H1 f ⟨n, p, rfl⟩ g z wk
theorem go_forx {ι : Type} {X : List α → Prop} (h : Ivx W wi t X) (tg : Tgt g t as) (J : Nat → ι → List RS × List (Option SF)) (Pv : Nat → ι → Prop) (c0 : ι) (p0 : Pv 0 c0) (w0 : Wk W { W with L := (J 0 c0).1, G := (J 0 c0).2 })
    (hs : ∀ xs k c x (f : FF), X xs → xs[k]? = some x → Pv k c → Go (Wd.puts ⟨W.H0, W.M, W.S, (J k c).1, f :: W.F, (J k c).2⟩ (as x)) ts
      { D with nx := fun σ H => ∃ c', Pv (k + 1) c' ∧ Ok ⟨W.H0, W.M, W.S, (J (k + 1) c').1, f :: W.F, (J (k + 1) c').2⟩ σ H, ct := fun σ H => ∃ c', Pv (k + 1) c' ∧ Ok ⟨W.H0, W.M, W.S, (J (k + 1) c').1, f :: W.F, (J (k + 1) c').2⟩ σ H, bk := D.nx })
    (hd : ∀ xs c, X xs → Pv xs.length c → ∀ σ H, Ok { W with L := (J xs.length c).1, G := (J xs.length c).2 } σ H → D.nx σ H) :
    Go W (tFor wi g ts) D := fun σ H o => h σ H o _ fun xs Ji H1 f px g1 fp wk =>
  for_core wk tg (fun k c => ⟨W.H0, W.M, W.S, (J k c).1, f :: W.F, (J k c).2⟩) Pv (fun _ _ => rfl) ⟨c0, p0, Ok.know (w0 _ _ g1.ok) fp⟩ (fun k c x hx pc => hs xs k c x f px hx pc) fun c pc σ' H' o' => hd xs c px pc σ' H'
    ⟨o'.nod, o'.own, o'.at_, o'.ms, o'.al, o'.bt, o'.len, fun q m => o'.facts q (List.mem_cons_of_mem _ m), o'.slots⟩
/-! ### lists or tuples -/
def tLT (K : PySem.W.Frag) {α : Type} (t : Ty α) : Ty (List α) := ⟨fun H v xs => ∃ p vs, v = .ref p ∧ (SqL K H p vs ∨ SqT K H p vs) ∧ All2 (t.r H) vs xs, fun e ⟨p, vs, h, g, h1⟩ => ⟨p, vs, h, g.imp (fun z => e.seq z) (fun z => sqT_mono e z), All2.mono (fun _ _ => t.mono e) h1⟩⟩
theorem ev_LT {xs : List α} (h : Ev W ta (tLs K t) xs) : Ev W ta (tLT K t) xs := ev_to h fun _ _ ⟨p, vs, e, s, al⟩ => ⟨p, vs, e, .inl (SqL.of s), al⟩
theorem lt_hid {H : Hp} {S : List Addr} {p : Addr} {vs : List V} (h : SqL K (hid S H) p vs ∨ SqT K (hid S H) p vs) : SqL K H p vs ∨ SqT K H p vs := h.imp (fun z => hid_sub.seq z) (fun z => sqT_mono hid_sub z)
theorem ev_inT {z : Str} {xs : List Str} (ha : Ev W ta tSt z) (hb : Ev W tb (tLT K tSt) xs) : Ev W (tOp (rIn K false) ta tb) tBl (decide (z ∈ xs)) := fun σ H o Q q =>
  ha σ H o _ fun v H1 g1 r1 => hb σ H1 g1.ok _ fun v2 H2 g2 ⟨p, vs, e, s, al⟩ => ⟨p, vs, e, lt_hid s, by rw [show v = .str z from r1]; rfl, flat_str al, q _ H2 (g1.trans g2) (by rw [show v = .str z from r1]; show V.bl (inV (.str z) vs) = _; rw [inV_str al])⟩
theorem ev_niT {z : Str} {xs : List Str} (ha : Ev W ta tSt z) (hb : Ev W tb (tLT K tSt) xs) : Ev W (tOp (rIn K true) ta tb) tBl (!decide (z ∈ xs)) := fun σ H o Q q =>
  ha σ H o _ fun v H1 g1 r1 => hb σ H1 g1.ok _ fun v2 H2 g2 ⟨p, vs, e, s, al⟩ => ⟨p, vs, e, lt_hid s, by rw [show v = .str z from r1]; rfl, flat_str al, q _ H2 (g1.trans g2) (by rw [show v = .str z from r1]; show V.bl (!inV (.str z) vs) = _; rw [inV_str al])⟩
theorem el_starT {xs ys : List α} (ha : Ev W ta (tLT K t) xs) (hr : El W ar t ys) : El W (StX.tStar K ta ar) t (xs ++ ys) := fun σ H o Q q =>
  ha σ H o _ fun v H1 g1 ⟨p, vs, e, s, al⟩ => ⟨p, vs, e, (lt_hid s).symm, hr σ H1 g1.ok _ fun ws H2 g2 r2 => q _ _ (g1.trans g2) ((All2.mono (fun _ _ => t.mono g2.up) al).app r2)⟩
/-! ### calls that leave arguments out; comparisons of several answers -/
theorem Fits.append {H : Hp} : ∀ {fs gs : List SF} {us ws : List V}, Fits H fs us → Fits H gs ws → Fits H (fs ++ gs) (us ++ ws)
  | [], _, [], _, _, h => h
  | _ :: _, _, _ :: _, _, ⟨a, b⟩, h => ⟨a, Fits.append b h⟩
  | [], _, _ :: _, _, h, _ => h.elim
  | _ :: _, _, [], _, h, _ => h.elim
theorem evx_callD {C : γ → List RS} {A : γ → List SF} {w : Ty β} {pre : γ → Prop} {post : γ → β → Prop} {z : γ} {ds : List SF} {dvs : List V} (h : Ea W ar fs) (hd : ∀ H, Fits H ds dvs) (e : A z = fs ++ ds) (hp : pre z) (hC : (C z).Sublist W.L := by first | exact List.nil_sublist _ | exact List.Sublist.refl _ | exact List.singleton_sublist.mpr (by simp) | simp) :
    Evx W (tCall (spN C A w pre post) dvs E ar) w (post z) := fun σ H o Q q => h σ H o _ fun vs H1 g1 r1 => by
  have sub : ∀ a, a ∈ fps (C z) → a ∈ W.S := fun a m => by
    obtain ⟨r, m1, m2⟩ := of_fps m
    exact (g1.ok.own a (mem_fps (hC.subset m1) m2)).1
  refine ⟨W.S, z, g1.ok.al, ?_, sub, fun r m => g1.ok.at_ r (hC.subset m), by rw [e]; exact Fits.append r1 (hd _), hp, fun v y H2 py b al c r => ?_⟩
  · exact (fps_sub hC).nodup g1.ok.nod
  · exact q v y H2 py (g1.trans (g1.ok.after (fun r m => hC.subset m) b al c)) r
theorem evx_cat {xs : List α} {P : List α → Prop} (ha : Ev W ta (tLs K t) xs) (hb : Evx W tb (tLs K t) P) (hl : ∀ ys, P ys → xs.length + ys.length ≤ sizeLine) : Evx W (tOp rCat ta tb) (tLs K t) (fun z => ∃ ys, P ys ∧ z = xs ++ ys) := fun σ H o Q q =>
  ha σ H o _ fun v H1 g1 r1 => hb σ H1 g1.ok _ fun v2 ys H2 py g2 ⟨p2, vs2, e2, s2, al2⟩ => by
    obtain ⟨p1, vs1, e1, s1, al1⟩ := (tLs K t).mono g2.up r1
    exact ⟨p1, p2, vs1, vs2, e1, e2, hid_sub _ _ s1, hid_sub _ _ s2, by rw [al1.length, al2.length]; exact hl ys py, fun p np => q _ _ _ ⟨ys, py, rfl⟩ ((g1.trans g2).trans (g2.ok.new np))
      ⟨p, vs1 ++ vs2, rfl, (by rw [hid_of (g2.ok.off np)]; exact upd_same), All2.mono (fun _ _ => t.mono (g2.ok.new np).up) (al1.app al2)⟩⟩
theorem etx_of {P : Bool → Prop} (h : Evx W ta tBl P) : Etx W (tTest ta) P := fun σ H o Q q => h σ H o _ fun v b H1 p g1 r1 => ⟨b, r1, q b H1 p g1⟩
theorem evx_neD [DecidableEq α] {P : α → Prop} (e : Eqt K t) (ha : Evx W ta t P) (hb : Ev W tb t x') (l1 : ∀ x, P x → (e.d x).canLay0 = true) (l2 : (e.d x').canLay0 = true) (hn : e.n ≤ 64 := by decide) : Evx W (tOp (rNeD K) ta tb) tBl (fun b => ∃ x, P x ∧ b = !decide (x = x')) := fun σ H o Q q =>
  ha σ H o _ fun v x H1 px g1 r1 => hb σ H1 g1.ok _ fun v2 H2 g2 r2 => ⟨e.d x, e.d x', dp_mono hid_sub (e.dp (t.mono g2.up r1)), dp_mono hid_sub (e.dp r2), e.shape hn (l1 x px), e.shape hn l2, by rw [e.dec]; exact q _ _ H2 ⟨x, px, rfl⟩ (g1.trans g2) rfl⟩
end
end Cs
namespace Cs
open PySem PySem.Spec PyProof.Rows L2
theorem lay_st {K : PySem.W.Frag} {x : Str} (h : PyData.strOk x = true) : ((eqSt (K := K)).d x).canLay0 = true := by
  show (PyData.str x).canLay0 = true
  simp only [PyData.canLay0]
  exact h
/-- what a law is asked, and what it answers -/
abbrev spLawT (K : PySem.W.Frag) : Sp := spP (fun ns : List Int => [(tSc K).is ns]) tBl (fun _ => True) (fun _ => true)
theorem spL_in {K : PySem.W.Frag} {H : Hp} {a : Addr} {ns : List Int} {Q : VK} {E : XK} (hS : SqL K H a (ns.map V.int)) (q : ∀ H', Q (.bl true) H') : spLawT K [.ref a] H Q E :=
  ⟨[], ns, (fun a m => nomatch m), List.nodup_nil, (fun a m => by cases m), (fun r m => by cases m), ⟨⟨a, rfl, (show Same H (hid [] H) from fun b o h => by rw [hid_of List.not_mem_nil]; exact h).seq hS⟩, trivial⟩, trivial, fun v y H' py _ _ _ r => by
    rw [show v = .bl y from r, show y = true from py]
    exact q H'⟩
theorem lt8 {m : Int} (h : m.natAbs < 65536) : m.natAbs < 2 ^ 8000 := Nat.lt_of_lt_of_le h (Nat.pow_le_pow_right (n := 2) (i := 16) (by decide) (by decide))
end Cs
namespace Cs
open PySem PySem.Spec PyProof.Rows L2
/-! ### keywords are bound -/
theorem s_pb {α β : Type} (a : α) (f : α → Sem β) : (pure a >>= f) = f a := rfl
theorem forIn_all {α σ : Type} {body : α → σ → Sem (ForInStep σ)} (st : List α → σ) : ∀ (l pre : List α), (∀ p x q, pre ++ l = p ++ x :: q → body x (st p) = pure (.yield (st (p ++ [x])))) → forIn l (st pre) body = pure (st (pre ++ l))
  | [], pre, _ => by rw [List.append_nil]; rfl
  | x :: l, pre, h => by
    rw [List.forIn_cons, h pre x l rfl, s_pb]
    show forIn l (st (pre ++ [x])) body = _
    rw [forIn_all st l (pre ++ [x]) fun p y q e => h p y q (by rw [← e]; simp)]
    simp
theorem forIn_alls {α σ : Type} {body : α → σ → Sem (ForInStep σ)} (st : List α → σ) (l : List α) {s : σ} (e : st [] = s) (h : ∀ p x q, l = p ++ x :: q → body x (st p) = pure (.yield (st (p ++ [x])))) : forIn l s body = pure (st l) := by
  subst e
  have := forIn_all st l [] (body := body) (by simpa using h)
  simpa using this
theorem filterMap_eq {α β : Type} {f g : α → Option β} : ∀ {l : List α}, (∀ x ∈ l, f x = g x) → l.filterMap f = l.filterMap g
  | [], _ => rfl
  | x :: l, h => by rw [List.filterMap_cons, List.filterMap_cons, h x (List.mem_cons_self ..), filterMap_eq fun y m => h y (List.mem_cons_of_mem _ m)]
theorem forIn_id {α σ : Type} {body : α → σ → Sem (ForInStep σ)} {s : σ} {l : List α} (h : ∀ x ∈ l, body x s = pure (.yield s)) : forIn l s body = pure s := forIn_all (fun _ => s) l [] fun p x q e => h x (by rw [List.nil_append] at e; rw [e]; simp)
theorem zip_lookup : ∀ {ns : List Str} {us : List Value} {n : Str}, ns.length = us.length → n ∈ ns → ((ns.zip us).lookup n).isSome = true
  | [], _, _, _, h => by cases h
  | m :: ns, [], _, e, _ => by cases e
  | m :: ns, u :: us, n, e, h => by
    rw [List.zip_cons_cons, List.lookup_cons]
    by_cases q : n = m
    · subst q; simp
    · have : (n == m) = false := by simpa using q
      rw [this]
      rcases List.mem_cons.mp h with h | h
      · exact absurd h q
      · exact zip_lookup (by simpa using e) h
theorem zip_lookup0 : ∀ {ns : List Str} {us : List Value} {n : Str}, n ∉ ns → (ns.zip us).lookup n = none
  | [], _, _, _ => by simp
  | m :: ns, [], _, _ => by simp
  | m :: ns, u :: us, n, h => by
    rw [List.zip_cons_cons, List.lookup_cons]
    have : (n == m) = false := by simpa using (fun q : n = m => h (q ▸ List.mem_cons_self ..))
    rw [this]
    exact zip_lookup0 fun z => h (List.mem_cons_of_mem _ z)
theorem zip_binds : ∀ {ns : List Str} {us : List Value}, ns.length = us.length → ns.Nodup → (ns.filterMap fun n => ((ns.zip us).lookup n).map fun v => (n, v)) = ns.zip us
  | [], [], _, _ => rfl
  | [], _ :: _, e, _ => by cases e
  | _ :: _, [], e, _ => by cases e
  | m :: ns, u :: us, e, nd => by
    rw [List.nodup_cons] at nd
    rw [List.zip_cons_cons, List.filterMap_cons, List.lookup_cons]
    simp only [beq_self_eq_true]
    show (m, u) :: _ = _
    congr 1
    refine Eq.trans (filterMap_eq fun n hn => ?_) (zip_binds (by simpa using e) nd.2)
    rw [List.lookup_cons]
    have : (n == m) = false := by simpa using (fun q : n = m => nd.1 (q ▸ hn))
    rw [this]
theorem bind_kw {fd : FuncData} {N Kn : List Str} {us ws : List Value} (h0 : fd.params.posonlyargs = []) (h1 : fd.params.args.map (·.arg) = N) (h2 : fd.params.kwonlyargs.map (·.arg) = Kn) (h3 : fd.params.vararg = none) (h4 : fd.params.kwarg = none) (h5 : fd.defaults = .none) (nd : (N ++ Kn).Nodup) (l1 : us.length = N.length) (l2 : ws.length = Kn.length) :
    bindArgs fd ⟨us, Kn.zip ws⟩ = pure ((N ++ Kn).zip (us ++ ws)) := by
  have ez : N.zip us ++ Kn.zip ws = (N ++ Kn).zip (us ++ ws) := (List.zip_append l1.symm).symm
  have lz : (N ++ Kn).length = (us ++ ws).length := by simp [l1, l2]
  have ndd := List.nodup_append.mp nd
  unfold bindArgs
  simp only [h0, h1, h2, h3, h4, h5, List.map_nil, List.nil_append]
  rw [forIn_alls (fun pre => (N.zip us ++ pre, ([] : List (Str × Value)))) (Kn.zip ws) (by simp) ?_]
  · rw [s_pb, show seqItems? Value.none = pure none from rfl, s_pb, if_neg (by simp [l1])]
    simp only [ez]
    rw [if_neg ?_]
    · have ed : (List.drop ((((none : Option (Array Value)).getD #[]).toList).length - N.length) (((none : Option (Array Value)).getD #[]).toList)) = [] := by simp
      rw [ed, List.zip_nil_right]
      rw [show (forIn ([] : List (Str × Value)) ((N ++ Kn).zip (us ++ ws)) fun x s => if (List.lookup x.fst s).isNone = true then (pure (ForInStep.yield (s ++ [(x.fst, x.snd)])) : Sem _) else pure (ForInStep.yield s)) = pure ((N ++ Kn).zip (us ++ ws)) from rfl, s_pb]
      rw [forIn_id (l := Kn) (fun n hn => ?_), s_pb, if_neg (by simp)]
      · show pure _ = _
        congr 1
        exact zip_binds lz nd
      · rw [if_neg (by
          have := zip_lookup lz (List.mem_append_right N hn)
          simp only [Option.isNone_iff_eq_none]
          intro z
          rw [z] at this
          cases this)]
    · have : (List.filter (fun n => (List.lookup n ((N ++ Kn).zip (us ++ ws))).isNone) (List.take (N.length - (List.drop ((((none : Option (Array Value)).getD #[]).toList).length - N.length) (((none : Option (Array Value)).getD #[]).toList)).length) N)) = [] := List.filter_eq_nil_iff.mpr fun n hn => by
        have := zip_lookup lz (List.mem_append_left Kn (List.mem_of_mem_take hn))
        simp only [Option.isNone_iff_eq_none]
        intro z
        rw [z] at this
        cases this
      rw [this]
      simp
  · intro p x q e
    have ek : Kn = p.map (·.1) ++ x.1 :: q.map (·.1) := by
      have := congrArg (List.map (·.1)) e
      rw [List.map_append, List.map_cons] at this
      rw [← this, List.map_fst_zip (by omega)]
    have hx : x.1 ∈ Kn := by rw [ek]; simp
    have h1 : x.1 ∉ N := fun z => ndd.2.2 _ z _ hx rfl
    have h2 : x.1 ∉ p.map (·.1) := fun z => by
      have := ndd.2.1
      rw [ek, List.nodup_append] at this
      exact this.2.2 _ z _ (List.mem_cons_self ..) rfl
    have h3 : List.lookup x.1 (N.zip us ++ p) = none := by
      rw [List.lookup_append, zip_lookup0 h1]
      simp only [Option.none_or]
      rw [List.lookup_eq_none_iff]
      intro y my
      simp only [bne_iff_ne, ne_eq, beq_eq_false_iff_ne]
      exact fun z => h2 (List.mem_map.mpr ⟨y, my, z.symm⟩)
    rw [if_pos (by simp [hx]), if_neg (by simp [h3])]
    simp
end Cs
set_option maxHeartbeats 4000000
namespace Cs
open PySem PySem.Spec PyProof.Rows L2
def topS (i : Nat) : Stmt := PySem.Challenge.pw_consol_k46_whole_least_set_of_defaults.main.body.getD i (.Pass ⟨0, 0, 0, 0⟩)
local macro_rules | `(tactic| walk_at "rd") => `(tactic| (first
  | (refine ⟨_, rfl, ?_⟩)
  | (refine ⟨_, _, rfl, rfl, ?_⟩)
  | (refine .inl ⟨_, rfl, ?_⟩)
  | (refine .inr ⟨_, rfl, ?_⟩)
  | (refine ⟨_, _, _, _, rfl, rfl, SqL.of upd_same, rfl, ?_⟩)
  | (refine ⟨_, _, _, _, rfl, rfl, upd_same, rfl, ?_⟩)
  | (refine ⟨_, ?xs, _, ?v, rfl, rfl, ?h, ?x, ?_⟩; (case h => first | exact SqL.of (by assumption) | exact SqT.of (by assumption) | assumption); (case x => first | rfl | exact atI_nat (j := 0) rfl | exact atI_nat (j := 1) rfl))))
local macro_rules | `(tactic| walk_at "isi") => `(tactic| (first
  | (refine ⟨_, _, _, _, _, rfl, .ty _, .base (.int _), kit_ty kit_it, ?_⟩)
  | (refine ⟨_, _, _, _, _, rfl, .ty _, .base (.int _), kit_ty kit_ib, ?_⟩)
  | (refine ⟨_, _, _, _, _, rfl, .ty _, .base (.int _), kit_ty kit_ii, ?_⟩)
  | (refine ⟨_, _, _, _, _, rfl, .ty _, .base (.bl _), kit_ty kit_bt, ?_⟩)
  | (refine ⟨_, _, _, _, _, rfl, .ty _, .base (.bl _), kit_ty kit_bb, ?_⟩)
  | (refine ⟨_, _, _, _, _, rfl, .ty _, .base (.bl _), kit_ty kit_bi, ?_⟩)))
local macro_rules | `(tactic| walk_at "ev") => `(tactic| (first
  | exact ev_var rfl
  | exact ev_int
  | exact ev_str
  | exact ev_bl
  | exact ev_non
  | (refine ev_add ?_ ?_ <;> walk_at "ev")
  | (refine ev_sub ?_ ?_ <;> walk_at "ev")
  | (refine ev_mul ?_ ?_ ?_ <;> (try walk_at "ev"))
  | (refine ev_neg ?_ <;> walk_at "ev")
  | (refine ev_num ?_ <;> walk_at "ev")
  | (refine ev_den ?_ <;> walk_at "ev")
  | (refine ev_cmp ?_ ?_ <;> walk_at "ev")
  | (refine ev_eqI ?_ ?_ <;> walk_at "ev")
  | (refine ev_eqS ?_ ?_ <;> walk_at "ev")
  | (refine ev_neI ?_ ?_ <;> walk_at "ev")
  | (refine ev_neS ?_ ?_ <;> walk_at "ev")
  | (refine ev_inS ?_ ?_ <;> walk_at "ev")
  | (refine ev_niS ?_ ?_ <;> walk_at "ev")
  | (refine ev_len ?_ <;> walk_at "ev")
  | (refine ev_list ?_ <;> walk_at "ev")
  | (refine ev_listRev ?_ <;> walk_at "ev")
  | (refine ev_int1 ?_ <;> walk_at "ev")))
local macro_rules | `(tactic| walk_at "ea") => `(tactic| (first
  | exact ea_nil
  | (refine ea_cons ?_ ?_ <;> (first | walk_at "ev" | walk_at "ea" | skip))))
section
variable {P : Program} {w : World} {K : PySem.W.Frag} {mg : Str → Option Value} {base : Heap}
abbrev sDeck : Stmt := topS 21
theorem scDeck : FnScope ["script"] ["script"] (defScope sDeck) := ⟨rfl, rfl, rfl, by decide +kernel, rfl, by decide +kernel, by decide +kernel⟩
theorem ok_deck {f : Addr} {fd : FuncData} {k : Nat} (F : Fun K "_law_deck" "_law_deck" sDeck f fd) (z_list : mg "list" = none) : FnOk P w K mg base CX0 (k + 1) f fd ["script"] (spDeckN K) := by
  refine F.ok scDeck (fun vs H Q E h => ?_) (fun cdv A outer s H vs Q E hr h => ?_)
  · obtain ⟨a, ns, rfl, _⟩ := h
    rfl
  · obtain ⟨a, ns, rfl, hS, q⟩ := h
    refine ⟨_, (pss_one (ps_ret (pe_lst (pa_cons (pe_callTy call_list_of (by rfl) z_list (by decide +kernel) (pa_cons (pv 0) pa_nil)) (pa_cons pe_int (pa_cons pe_int (pa_cons pe_int pa_nil))))))), ?_⟩
    refine ⟨_, rfl, _, _, rfl, .inl hS, fun l hl => ?_⟩
    refine ⟨by show 4 ≤ sizeLine; decide, fun d hd => ?_⟩
    have hdl : d ≠ l := fun e => by rw [e, upd_same] at hd; cases hd
    have hd0 : H d = none := by rw [upd_ne hdl] at hd; exact hd
    refine q d l _ ((Same.new hl).trans (Same.new hd)) hd0 hl ⟨0, 0, 7, upd_same, .inl (.inl ?_), hdl.symm, Int.le_refl _⟩
    rw [upd_ne hdl.symm, upd_same]
abbrev sDraw : Stmt := topS 22
theorem scDraw : FnScope ["deck", "most", "value", "cell"] ["deck", "most"] (defScope sDraw) := ⟨rfl, rfl, rfl, by decide +kernel, rfl, by decide +kernel, by decide +kernel⟩
theorem ok_draw {f : Addr} {fd : FuncData} {k : Nat} (F : Fun K "_law_draw" "_law_draw" sDraw f fd) (z_len : mg "len" = none) (z_int : mg "int" = none) : FnOk P w K mg base CX0 (k + 1) f fd ["deck", "most"] (spDrawA K) := by
  refine F.ok scDraw (fun vs H Q E h => ?_) (fun cdv A outer s H vs Q E hr h => ?_)
  · obtain ⟨a, m, l, ns, rfl, _⟩ := h
    rfl
  · obtain ⟨d, m, l, ns, rfl, m0, mb, ⟨b, c, e, hd, hl, ne, b0⟩, q⟩ := h
    refine ⟨_, (pss_cons (ps_if (pt_cmpR op_ge (pe_ix ix_list (pv 0) pe_int (fun _ _ => rfl)) (pv 1) (nomark _)) (pss_cons (ps_set (i := 2) scDraw.nd rfl (Or.inl rfl) (pe_op op_mod (pe_callTy call_int1 (by rfl) z_int (by decide +kernel) (pa_cons (pe_ix ix_list (pv 0) pe_int (fun _ _ => rfl)) pa_nil)) (pv 1)))
      (pss_cons (ps_asg (pe_op op_fdivA (pe_ix ix_list (pv 0) pe_int (fun _ _ => rfl)) (pv 1)) (pg_sub (pv 0) pe_int set_list))
      (pss_one (ps_ret (pv 2))))) pss_nil)
      (pss_cons (ps_set (i := 3) scDraw.nd rfl (Or.inl rfl) pe_int)
      (pss_cons (ps_if (pt_cmpR op_lt (pe_ix ix_list (pv 0) pe_int (fun _ _ => rfl)) (pe_callB call_len_seq (by rfl) z_len PySem.boot_len (pa_cons (pe_ix ix_list (pv 0) pe_int (fun _ _ => rfl)) pa_nil)) (nomark _)) (pss_one (ps_set (i := 3) scDraw.nd rfl (Or.inl rfl) (pe_ix ix_list (pe_ix ix_list (pv 0) pe_int (fun _ _ => rfl)) (pe_ix ix_list (pv 0) pe_int (fun _ _ => rfl)) (fun _ _ => rfl)))) pss_nil)
      (pss_cons (ps_asg (pe_op op_add (pe_ix ix_list (pv 0) pe_int (fun _ _ => rfl)) pe_int) (pg_sub (pv 0) pe_int set_list))
      (pss_cons (ps_asg pe_int (pg_sub (pv 0) pe_int set_list))
      (pss_cons (ps_if (pt_cmpR op_ge (pv 3) (pe_op op_pow pe_int pe_int) (nomark _)) (pss_cons (ps_asg (pe_op op_fdivA (pv 3) (pv 1)) (pg_sub (pv 0) pe_int set_list))
      (pss_one (ps_ret (pe_op op_mod (pe_callTy call_int1 (by rfl) z_int (by decide +kernel) (pa_cons (pv 3) pa_nil)) (pv 1))))) pss_nil)
      (pss_cons (ps_asg (pe_op op_mod (pe_callTy call_int1 (by rfl) z_int (by decide +kernel) (pa_cons (pe_op op_add (pe_op op_add (pe_op op_mulA (pe_ix ix_list (pv 0) pe_int (fun _ _ => rfl)) pe_int) (pe_op op_mulA (pv 3) pe_int)) (pe_op op_mulA (pe_ix ix_list (pv 0) pe_int (fun _ _ => rfl)) pe_int)) pa_nil)) pe_int) (pg_sub (pv 0) pe_int set_list))
      (pss_cons (ps_asg (pe_op op_mod (pe_callTy call_int1 (by rfl) z_int (by decide +kernel) (pa_cons (pe_op op_add (pe_op op_mulA (pe_ix ix_list (pv 0) pe_int (fun _ _ => rfl)) pe_int) pe_int) pa_nil)) pe_int) (pg_sub (pv 0) pe_int set_list))
      (pss_one (ps_ret (pe_op op_mod (pe_callTy call_int1 (by rfl) z_int (by decide +kernel) (pa_cons (pe_op op_fdivA (pe_ix ix_list (pv 0) pe_int (fun _ _ => rfl)) pe_int) pa_nil)) (pv 1)))))))))))), ?_⟩
    have mb9 : m.natAbs < 2 ^ 9000 := Nat.lt_trans mb (Nat.pow_lt_pow_right (by decide) (by decide))
    repeat walk_at "rd"
    refine ite2 (fun h1 => ?_) (fun h1 => ?_)
    · repeat walk_at "rd"
      refine ⟨m0, ?_⟩
      repeat walk_at "rd"
      refine ⟨⟨by omega, mb9⟩, ?_⟩
      repeat walk_at "rd"
      exact q _ _ (Int.emod_nonneg _ (by omega)) (Int.emod_lt_of_pos _ m0) But.upd (deckA_of hl ne But.upd upd_same b0)
    · repeat walk_at "rd"
      refine ⟨_, _, rfl, .inl hl, ?_⟩
      repeat walk_at "rd"
      refine ite2 (fun h2 => ?_) (fun h2 => ?_)
      · repeat walk_at "rd"
        obtain ⟨z, hz⟩ := cell_at (ns := ns) b0 (by have := of_decide_eq_true h2; rw [List.length_map] at this; exact this)
        refine ⟨_, _, _, _, rfl, rfl, hl, hz, ?_⟩
        repeat walk_at "rd"
        refine ⟨⟨by decide, by decide, by decide⟩, ?_⟩
        repeat walk_at "rd"
        refine ite2 (fun h3 => ?_) (fun h3 => ?_)
        · repeat walk_at "rd"
          refine ⟨⟨by omega, mb9⟩, ?_⟩
          repeat walk_at "rd"
          refine ⟨m0, ?_⟩
          exact q _ _ (Int.emod_nonneg _ (by omega)) (Int.emod_lt_of_pos _ m0) (((But.upd.trans But.upd)).trans But.upd) (deckA_of hl ne (((But.upd.trans But.upd)).trans But.upd) upd_same (show (0 : Int) ≤ b + 1 by omega))
        · repeat walk_at "rd"
          refine ⟨mulR (by decide), ?_⟩
          repeat walk_at "rd"
          refine ⟨mulR (by decide), ?_⟩
          repeat walk_at "rd"
          refine ⟨mulR (by decide), ?_⟩
          repeat walk_at "rd"
          refine ⟨(show (0 : Int) < 2147483647 by decide), ?_⟩
          repeat walk_at "rd"
          refine ⟨mulR (by decide), ?_⟩
          repeat walk_at "rd"
          refine ⟨(show (0 : Int) < 2147483647 by decide), ?_⟩
          repeat walk_at "rd"
          refine ⟨⟨by decide, by decide⟩, ?_⟩
          repeat walk_at "rd"
          refine ⟨m0, ?_⟩
          exact q _ _ (Int.emod_nonneg _ (by omega)) (Int.emod_lt_of_pos _ m0) (((But.upd.trans But.upd).trans But.upd).trans But.upd) (deckA_of hl ne (((But.upd.trans But.upd).trans But.upd).trans But.upd) upd_same (show (0 : Int) ≤ b + 1 by omega))
      · repeat walk_at "rd"
        refine ⟨⟨by decide, by decide, by decide⟩, ?_⟩
        repeat walk_at "rd"
        repeat walk_at "rd"
        refine ⟨mulR (by decide), ?_⟩
        repeat walk_at "rd"
        refine ⟨mulR (by decide), ?_⟩
        repeat walk_at "rd"
        refine ⟨mulR (by decide), ?_⟩
        repeat walk_at "rd"
        refine ⟨(show (0 : Int) < 2147483647 by decide), ?_⟩
        repeat walk_at "rd"
        refine ⟨mulR (by decide), ?_⟩
        repeat walk_at "rd"
        refine ⟨(show (0 : Int) < 2147483647 by decide), ?_⟩
        repeat walk_at "rd"
        refine ⟨⟨by decide, by decide⟩, ?_⟩
        repeat walk_at "rd"
        refine ⟨m0, ?_⟩
        exact q _ _ (Int.emod_nonneg _ (by omega)) (Int.emod_lt_of_pos _ m0) (((But.upd.trans But.upd).trans But.upd).trans But.upd) (deckA_of hl ne (((But.upd.trans But.upd).trans But.upd).trans But.upd) upd_same (show (0 : Int) ≤ b + 1 by omega))
abbrev sGcd : Stmt := topS 23
theorem scGcd : FnScope ["a", "b", "k", "rest"] ["a", "b"] (defScope sGcd) := ⟨rfl, rfl, rfl, by decide +kernel, rfl, by decide +kernel, by decide +kernel⟩
theorem ok_gcd {f : Addr} {fd : FuncData} {k : Nat} (F : Fun K "_law_gcd" "_law_gcd" sGcd f fd) (z_range : mg "range" = none) (z_int : mg "int" = none) : FnOk P w K mg base CX0 (k + 1) f fd ["a", "b"] spGcd := by
  refine F.ok scGcd (fun vs H Q E h => ?_) (fun cdv A outer s H vs Q E hr h => ?_)
  · obtain ⟨a, b, rfl, _⟩ := h
    rfl
  · obtain ⟨a, b, rfl, ha, hb, q⟩ := h
    refine ⟨_, (pss_cons (ps_for PassesOwn.never rfl (pi_range1 rfl z_range (pa_cons pe_int pa_nil)) (pg_name (i := 2) scGcd.nd rfl (Or.inl rfl)) (pss_cons (ps_if (pt_cmpR op_eq (pv 1) pe_int (nomark _)) (pss_one (ps_ret (pv 0))) pss_nil)
      (pss_cons (ps_set (i := 3) scGcd.nd rfl (Or.inl rfl) (pe_op op_mod (pe_callTy call_int1 (by rfl) z_int (by decide +kernel) (pa_cons (pv 0) pa_nil)) (pv 1)))
      (pss_cons (ps_set (i := 0) scGcd.nd rfl (Or.inl rfl) (pv 1))
      (pss_one (ps_set (i := 1) scGcd.nd rfl (Or.inl rfl) (pv 3)))))))
      (pss_one (ps_ret (pv 0)))), ?_⟩
    have hab : a * b < 2 ^ 4800 := Nat.lt_of_lt_of_eq (Nat.mul_lt_mul'' ha hb) (Nat.pow_add 2 2400 2400).symm
    refine ⟨5000, rfl, by decide, by decide, for_range (n := 5000) (fun i σ H' => ∃ (x y : Nat) (k2 k3 : Option V), σ = [some (.int x), some (.int y), k2, k3] ∧ H' = H ∧ ((i ≤ 4801 ∧ EG (Nat.gcd a b) 4800 i x y) ∨ (y = 0 ∧ x = Nat.gcd a b))) ?_ ?_ ?_⟩
    · exact ⟨a, b, none, none, rfl, rfl, .inl ⟨by omega, EG.start hab⟩⟩
    · intro i σ H1 hi hP
      obtain ⟨x, y, k2, k3, rfl, rfl, hP⟩ := hP
      refine ⟨_, rfl, rfl, _, rfl, ite2 (fun h0 => ?_) (fun h0 => ?_)⟩
      · have hy : y = 0 := by have := V.int.inj (of_decide_eq_true h0); omega
        refine ⟨_, rfl, ?_⟩
        have hx : x = Nat.gcd a b := by
          rcases hP with ⟨_, hE⟩ | ⟨_, hx⟩
          · subst hy; exact hE.zero
          · exact hx
        subst hx
        exact q
      · have hy : 0 < y := by
          rcases Nat.eq_zero_or_pos y with z | z
          · subst z; exact absurd (decide_eq_true rfl) h0
          · exact z
        rcases hP with ⟨hi2, hE⟩ | ⟨z, _⟩
        · have hi3 : i ≤ 4800 := by
            rcases Nat.lt_or_ge i 4801 with z | z
            · omega
            · have e : i = 4801 := by omega
              subst e
              have := hE.last
              omega
          repeat walk_at "rd"
          refine ⟨(show (0 : Int) < (y : Int) by omega), ?_⟩
          repeat walk_at "rd"
          exact ⟨y, x % y, some (.int (0 + (i : Int))), some (.int ((x : Int) % (y : Int))), rfl, rfl, .inl ⟨by omega, hE.step hy hi3⟩⟩
        · omega
    · intro σ H1 hP
      obtain ⟨x, y, k2, k3, rfl, rfl, hP⟩ := hP
      refine ⟨_, rfl, ?_⟩
      rcases hP with ⟨z, _⟩ | ⟨_, hx⟩
      · omega
      · subst hx
        exact q
abbrev sRatio : Stmt := topS 24
theorem scRatio : FnScope ["p", "q", "divisor"] ["p", "q"] (defScope sRatio) := ⟨rfl, rfl, rfl, by decide +kernel, rfl, by decide +kernel, by decide +kernel⟩
theorem ok_ratio {f : Addr} {fd : FuncData} {k : Nat} (F : Fun K "_law_ratio" "_law_ratio" sRatio f fd) (c_law_gcd : Cal P w K mg base k "_law_gcd" ["a", "b"] spGcd) (z_abs : mg "abs" = none) : FnOk P w K mg base CX0 (k + 1) f fd ["p", "q"] spRatio := by
  refine F.ok scRatio (fun vs H Q E h => ?_) (fun cdv A outer s H vs Q E hr h => ?_)
  · obtain ⟨a, b, rfl, _⟩ := h
    rfl
  · obtain ⟨p, q, rfl, q0, hp, hq, out⟩ := h
    refine ⟨_, (pss_cons (ps_set (i := 2) scRatio.nd rfl (Or.inl rfl) (pe_cal c_law_gcd hr (by rfl) (pa_cons (pe_callB call_abs (by rfl) z_abs (by decide +kernel) (pa_cons (pv 0) pa_nil)) (pa_cons (pe_callB call_abs (by rfl) z_abs (by decide +kernel) (pa_cons (pv 1) pa_nil)) pa_nil))))
      (pss_cons (ps_if (pt_cmpR op_lt (pv 1) pe_int (nomark _)) (pss_one (ps_set (i := 2) scRatio.nd rfl (Or.inl rfl) (pe_un un_neg (pv 2)))) pss_nil)
      (pss_one (ps_ret (pe_tup (pa_cons (pe_op op_fdivA (pv 0) (pv 2)) (pa_cons (pe_op op_fdivA (pv 1) (pv 2)) pa_nil))))))), ?_⟩
    refine ⟨_, rfl, _, rfl, _, rfl, _, rfl, p.natAbs, q.natAbs, ?_, hp, hq, ?_⟩
    · have : ∀ z : Int, (if z < 0 then -z else z) = (z.natAbs : Int) := fun z => by split <;> omega
      rw [this, this]
      rfl
    have hg := gcd_pos p q q0
    have hgb : ((Nat.gcd p.natAbs q.natAbs : Nat) : Int).natAbs < 2 ^ 9000 := by
      rw [Int.natAbs_natCast]
      exact Nat.lt_of_le_of_lt (Nat.gcd_le_right _ (by omega)) (Nat.lt_trans hq (Nat.pow_lt_pow_right (by decide) (by decide)))
    have en := frac_num p q q0
    have ed := frac_den p q q0
    repeat walk_at "rd"
    refine ite2 (fun h1 => ?_) (fun h1 => ?_)
    · have h1' : q < 0 := of_decide_eq_true h1
      rw [if_pos h1'] at en ed
      repeat walk_at "rd"
      refine ⟨⟨by omega, by rw [Int.natAbs_neg]; exact hgb⟩, ?_⟩
      repeat walk_at "rd"
      refine ⟨⟨by omega, by rw [Int.natAbs_neg]; exact hgb⟩, by show 2 ≤ sizeLine; decide, fun t ht => ?_⟩
      refine out t _ (Same.new ht) ht (upd_same.trans ?_)
      show some (HO.tup [.int (p.fdiv _), .int (q.fdiv _)]) = some (HO.tup [.int _, .int _])
      rw [en, ed]
    · have h1' : ¬ q < 0 := fun z => h1 (decide_eq_true z)
      rw [if_neg h1'] at en ed
      repeat walk_at "rd"
      refine ⟨⟨by omega, hgb⟩, ?_⟩
      repeat walk_at "rd"
      refine ⟨⟨by omega, hgb⟩, by show 2 ≤ sizeLine; decide, fun t ht => ?_⟩
      refine out t _ (Same.new ht) ht (upd_same.trans ?_)
      show some (HO.tup [.int (p.fdiv _), .int (q.fdiv _)]) = some (HO.tup [.int _, .int _])
      rw [en, ed]
abbrev sFraction : Stmt := topS 7
theorem scFraction : FnScope ["p", "q", "divisor"] ["p", "q"] (defScope sFraction) := ⟨rfl, rfl, rfl, by decide +kernel, rfl, by decide +kernel, by decide +kernel⟩
theorem ok_fraction {f : Addr} {fd : FuncData} {k : Nat} (F : FunD K "fraction" "fraction" (defArgs sFraction) (defBody sFraction) (defScope sFraction) [.int 1] [] f fd) (m_gcd : mg "gcd" = some (.builtin "math.gcd")) : FnOk P w K mg base CX0 (k + 1) f fd ["p", "q"] spFrac := by
  refine F.ok scFraction (fun vs H Q E h => ?_) (fun cdv A outer s H vs Q E hr h => ?_)
  · obtain ⟨a, b, rfl, _⟩ := h
    rfl
  · obtain ⟨p, q, rfl, q0, hq, out⟩ := h
    refine ⟨_, (pss_cons (ps_if (pt_cmpR op_eq (pv 1) pe_int (nomark _)) (pss_one ps_never) pss_nil)
      (pss_cons (ps_set (i := 2) scFraction.nd rfl (Or.inl rfl) (pe_callBfun cr_gcd (by rfl) m_gcd (pa_cons (pv 0) (pa_cons (pv 1) pa_nil))))
      (pss_cons (ps_if (pt_cmpR op_lt (pv 1) pe_int (nomark _)) (pss_one (ps_set (i := 2) scFraction.nd rfl (Or.inl rfl) (pe_un un_neg (pv 2)))) pss_nil)
      (pss_one (ps_ret (pe_tup (pa_cons (pe_op op_fdivA (pv 0) (pv 2)) (pa_cons (pe_op op_fdivA (pv 1) (pv 2)) pa_nil)))))))), ?_⟩
    have hg := gcd_pos p q q0
    have hgb : ((Nat.gcd p.natAbs q.natAbs : Nat) : Int).natAbs < 2 ^ 9000 := by
      rw [Int.natAbs_natCast]
      exact Nat.lt_of_le_of_lt (Nat.gcd_le_right _ (by omega)) hq
    have en := frac_num p q q0
    have ed := frac_den p q q0
    refine ⟨_, rfl, rfl, _, rfl, ite2 (fun h0 => absurd (V.int.inj (of_decide_eq_true h0)) q0) (fun h0 => ?_)⟩
    refine ⟨_, rfl, _, rfl, _, _, rfl, ?_⟩
    repeat walk_at "rd"
    refine ite2 (fun h1 => ?_) (fun h1 => ?_)
    · have h1' : q < 0 := of_decide_eq_true h1
      rw [if_pos h1'] at en ed
      repeat walk_at "rd"
      refine ⟨⟨by omega, by rw [Int.natAbs_neg]; exact hgb⟩, ?_⟩
      repeat walk_at "rd"
      refine ⟨⟨by omega, by rw [Int.natAbs_neg]; exact hgb⟩, by show 2 ≤ sizeLine; decide, fun t ht => ?_⟩
      refine out t _ (Same.new ht) ht (upd_same.trans ?_)
      show some (HO.tup [.int (p.fdiv _), .int (q.fdiv _)]) = some (HO.tup [.int _, .int _])
      rw [en, ed]
    · have h1' : ¬ q < 0 := fun z => h1 (decide_eq_true z)
      rw [if_neg h1'] at en ed
      repeat walk_at "rd"
      refine ⟨⟨by omega, hgb⟩, ?_⟩
      repeat walk_at "rd"
      refine ⟨⟨by omega, hgb⟩, by show 2 ≤ sizeLine; decide, fun t ht => ?_⟩
      refine out t _ (Same.new ht) ht (upd_same.trans ?_)
      show some (HO.tup [.int (p.fdiv _), .int (q.fdiv _)]) = some (HO.tup [.int _, .int _])
      rw [en, ed]
end
end Cs
set_option maxHeartbeats 4000000
namespace Cs
open PySem PySem.Spec PyProof.Rows L2
local macro_rules | `(tactic| walk_at "rd") => `(tactic| (first
  | (refine ⟨_, rfl, ?_⟩)
  | (refine ⟨_, _, rfl, rfl, ?_⟩)
  | (refine .inl ⟨_, rfl, ?_⟩)
  | (refine .inr ⟨_, rfl, ?_⟩)
  | (refine ⟨_, _, _, _, rfl, rfl, SqL.of upd_same, rfl, ?_⟩)
  | (refine ⟨_, _, _, _, rfl, rfl, upd_same, rfl, ?_⟩)
  | (refine ⟨_, ?xs, _, ?v, rfl, rfl, ?h, ?x, ?_⟩; (case h => first | exact SqL.of (by assumption) | exact SqT.of (by assumption) | assumption); (case x => first | rfl | exact atI_nat (j := 0) rfl | exact atI_nat (j := 1) rfl))))
local macro_rules | `(tactic| walk_at "isi") => `(tactic| (first
  | (refine ⟨_, _, _, _, _, rfl, .ty _, .base (.int _), kit_ty kit_it, ?_⟩)
  | (refine ⟨_, _, _, _, _, rfl, .ty _, .base (.int _), kit_ty kit_ib, ?_⟩)
  | (refine ⟨_, _, _, _, _, rfl, .ty _, .base (.int _), kit_ty kit_ii, ?_⟩)
  | (refine ⟨_, _, _, _, _, rfl, .ty _, .base (.bl _), kit_ty kit_bt, ?_⟩)
  | (refine ⟨_, _, _, _, _, rfl, .ty _, .base (.bl _), kit_ty kit_bb, ?_⟩)
  | (refine ⟨_, _, _, _, _, rfl, .ty _, .base (.bl _), kit_ty kit_bi, ?_⟩)))
local macro_rules | `(tactic| walk_at "ev") => `(tactic| (first
  | exact ev_var rfl
  | exact ev_int
  | exact ev_str
  | exact ev_bl
  | exact ev_non
  | (refine ev_add ?_ ?_ <;> walk_at "ev")
  | (refine ev_sub ?_ ?_ <;> walk_at "ev")
  | (refine ev_mul ?_ ?_ ?_ <;> (try walk_at "ev"))
  | (refine ev_neg ?_ <;> walk_at "ev")
  | (refine ev_num ?_ <;> walk_at "ev")
  | (refine ev_den ?_ <;> walk_at "ev")
  | (refine ev_cmp ?_ ?_ <;> walk_at "ev")
  | (refine ev_eqI ?_ ?_ <;> walk_at "ev")
  | (refine ev_eqS ?_ ?_ <;> walk_at "ev")
  | (refine ev_neI ?_ ?_ <;> walk_at "ev")
  | (refine ev_neS ?_ ?_ <;> walk_at "ev")
  | (refine ev_inS ?_ ?_ <;> walk_at "ev")
  | (refine ev_niS ?_ ?_ <;> walk_at "ev")
  | (refine ev_len ?_ <;> walk_at "ev")
  | (refine ev_list ?_ <;> walk_at "ev")
  | (refine ev_listRev ?_ <;> walk_at "ev")
  | (refine ev_int1 ?_ <;> walk_at "ev")))
local macro_rules | `(tactic| walk_at "ea") => `(tactic| (first
  | exact ea_nil
  | (refine ea_cons ?_ ?_ <;> (first | walk_at "ev" | walk_at "ea" | skip))))
local macro_rules | `(tactic| walk_at "sb") => `(tactic| (first | exact True.intro | (refine And.intro rfl ?_; walk_at "sb")))
section
variable {P : Program} {w : World} {K : PySem.W.Frag} {mg : Str → Option Value} {base : Heap}
def AFr2 (K : PySem.W.Frag) (x : Rat × Rat) : List SF := [(tFr K).is x.1, (tFr K).is x.2]
abbrev spPlus (K : PySem.W.Frag) : Sp := spP (AFr2 K) (tFr K) (fun x => Sz 1000 x.1 ∧ Sz 1000 x.2) (fun x => x.1 + x.2)
abbrev spTimes (K : PySem.W.Frag) : Sp := spP (AFr2 K) (tFr K) (fun x => Sz 1000 x.1 ∧ Sz 1000 x.2) (fun x => x.1 * x.2)
abbrev spOrder (K : PySem.W.Frag) : Sp := spP (AFr2 K) tInt (fun x => Sz 1000 x.1 ∧ Sz 1000 x.2) (fun x => cmpR x.1 x.2)
abbrev spSign (K : PySem.W.Frag) : Sp := spP (fun x : Rat => [(tFr K).is x]) tInt (fun _ => True) (fun x => x.num.sign)
abbrev spTotal (K : PySem.W.Frag) : Sp := spP (fun xs : List Rat => [(tLs K (tFr K)).is xs]) (tFr K) (fun xs => (∀ r ∈ xs, Sz 20 r) ∧ xs.length ≤ 40) rsum
abbrev sPlus : Stmt := topS 8
theorem scPlus : FnScope ["a", "b"] ["a", "b"] (defScope sPlus) := ⟨rfl, rfl, rfl, by decide +kernel, rfl, by decide +kernel, by decide +kernel⟩
theorem ok_plus {f : Addr} {fd : FuncData} {k : Nat} (F : Fun K "plus" "plus" sPlus f fd) (c_fraction : Cal P w K mg base k "fraction" ["p", "q"] spFrac) : FnOk P w K mg base CX0 (k + 1) f fd ["a", "b"] (spPlus K) := by
  refine ok_P F scPlus (fun _ => rfl) fun cdv A outer s H0 S x Q E hr hp out => ⟨_, (pss_one (ps_ret (pe_cal c_fraction hr (by rfl) (pa_cons (pe_op op_add (pe_op op_mulA (pe_ix ix_tup (pv 0) pe_int (fun _ _ => rfl)) (pe_ix ix_tup (pv 1) pe_int (fun _ _ => rfl))) (pe_op op_mulA (pe_ix ix_tup (pv 1) pe_int (fun _ _ => rfl)) (pe_ix ix_tup (pv 0) pe_int (fun _ _ => rfl)))) (pa_cons (pe_op op_mulA (pe_ix ix_tup (pv 0) pe_int (fun _ _ => rfl)) (pe_ix ix_tup (pv 1) pe_int (fun _ _ => rfl))) pa_nil))))), ?_⟩
  obtain ⟨h, g⟩ := hp
  refine go_end (y := x.1 + x.2) (ev_is (ev_frc (ev_add (ev_mul (ev_num (ev_var rfl)) (ev_den (ev_var rfl)) ?_) (ev_mul (ev_num (ev_var rfl)) (ev_den (ev_var rfl)) ?_)) (ev_mul (ev_den (ev_var rfl)) (ev_den (ev_var rfl)) ?_) ?_ ?_) ?_) out
  · exact mulZ h.nn g.dd
  · exact mulZ g.nn h.dd
  · exact mulZ h.dd g.dd
  · exact Int.mul_ne_zero (den_ne _) (den_ne _)
  · exact lt9 (pow_lt h.dd g.dd) (by decide)
  · exact add_div _ _
abbrev sTimes : Stmt := topS 9
theorem scTimes : FnScope ["a", "b"] ["a", "b"] (defScope sTimes) := ⟨rfl, rfl, rfl, by decide +kernel, rfl, by decide +kernel, by decide +kernel⟩
theorem ok_times {f : Addr} {fd : FuncData} {k : Nat} (F : Fun K "times" "times" sTimes f fd) (c_fraction : Cal P w K mg base k "fraction" ["p", "q"] spFrac) : FnOk P w K mg base CX0 (k + 1) f fd ["a", "b"] (spTimes K) := by
  refine ok_P F scTimes (fun _ => rfl) fun cdv A outer s H0 S x Q E hr hp out => ⟨_, (pss_one (ps_ret (pe_cal c_fraction hr (by rfl) (pa_cons (pe_op op_mulA (pe_ix ix_tup (pv 0) pe_int (fun _ _ => rfl)) (pe_ix ix_tup (pv 1) pe_int (fun _ _ => rfl))) (pa_cons (pe_op op_mulA (pe_ix ix_tup (pv 0) pe_int (fun _ _ => rfl)) (pe_ix ix_tup (pv 1) pe_int (fun _ _ => rfl))) pa_nil))))), ?_⟩
  obtain ⟨h, g⟩ := hp
  refine go_end (y := x.1 * x.2) (ev_is (ev_frc (ev_mul (ev_num (ev_var rfl)) (ev_num (ev_var rfl)) ?_) (ev_mul (ev_den (ev_var rfl)) (ev_den (ev_var rfl)) ?_) ?_ ?_) ?_) out
  · exact mulZ h.nn g.nn
  · exact mulZ h.dd g.dd
  · exact Int.mul_ne_zero (den_ne _) (den_ne _)
  · exact lt9 (pow_lt h.dd g.dd) (by decide)
  · exact mul_div _ _
abbrev sSign : Stmt := topS 11
theorem scSign : FnScope ["a"] ["a"] (defScope sSign) := ⟨rfl, rfl, rfl, by decide +kernel, rfl, by decide +kernel, by decide +kernel⟩
theorem ok_sign {f : Addr} {fd : FuncData} {k : Nat} (F : Fun K "sign" "sign" sSign f fd) : FnOk P w K mg base CX0 (k + 1) f fd ["a"] (spSign K) := by
  refine ok_P F scSign (fun _ => rfl) fun cdv A outer s H0 S x Q E hr hp out => ⟨_, (pss_cons (ps_if (pt_cmpR op_lt (pe_ix ix_tup (pv 0) pe_int (fun _ _ => rfl)) pe_int (nomark _)) (pss_one (ps_ret (pe_un un_neg pe_int))) pss_nil)
      (pss_one (ps_ret (pe_ifExp (pt_cmpR op_gt (pe_ix ix_tup (pv 0) pe_int (fun _ _ => rfl)) pe_int (nomark _)) pe_int pe_int)))), ?_⟩
  refine go_ifr (et_of (ev_cmp (ev_num (ev_var rfl)) ev_int)) (fun hb => ?_) (fun hb => ?_)
  · refine go_end (y := x.num.sign) (ev_is (ev_neg ev_int) ?_) out
    exact (Int.sign_eq_neg_one_of_neg (of_decide_eq_true hb)).symm
  · have h0 : ¬ x.num < 0 := of_decide_eq_false hb
    refine go_end (y := x.num.sign) (ev_if (et_of (ev_cmp (ev_num (ev_var rfl)) ev_int)) (fun h => ev_is ev_int ?_) (fun h => ev_is ev_int ?_)) out
    · exact (Int.sign_eq_one_of_pos (of_decide_eq_true h)).symm
    · have h1 : ¬ 0 < x.num := of_decide_eq_false h
      have : x.num = 0 := by omega
      rw [this]; rfl
abbrev sOrder : Stmt := topS 10
theorem scOrder : FnScope ["a", "b"] ["a", "b"] (defScope sOrder) := ⟨rfl, rfl, rfl, by decide +kernel, rfl, by decide +kernel, by decide +kernel⟩
theorem ok_order {f : Addr} {fd : FuncData} {k : Nat} (F : Fun K "order" "order" sOrder f fd) (c_sign : Cal P w K mg base k "sign" ["a"] (spSign K)) : FnOk P w K mg base CX0 (k + 1) f fd ["a", "b"] (spOrder K) := by
  refine ok_P F scOrder (fun _ => rfl) fun cdv A outer s H0 S x Q E hr hp out => ⟨_, (pss_one (ps_ret (pe_cal c_sign hr (by rfl) (pa_cons (pe_tup (pa_cons (pe_op op_sub (pe_op op_mulA (pe_ix ix_tup (pv 0) pe_int (fun _ _ => rfl)) (pe_ix ix_tup (pv 1) pe_int (fun _ _ => rfl))) (pe_op op_mulA (pe_ix ix_tup (pv 1) pe_int (fun _ _ => rfl)) (pe_ix ix_tup (pv 0) pe_int (fun _ _ => rfl)))) (pa_cons pe_int pa_nil))) pa_nil)))), ?_⟩
  obtain ⟨h, g⟩ := hp
  refine go_end (y := cmpR x.1 x.2) (ev_is (ev_call (z := _) (ea_cons (ev_fracI (ev_sub (ev_mul (ev_num (ev_var rfl)) (ev_den (ev_var rfl)) ?_) (ev_mul (ev_num (ev_var rfl)) (ev_den (ev_var rfl)) ?_))) ea_nil) ?_) ?_) out
  · exact mulZ h.nn g.dd
  · exact mulZ g.nn h.dd
  · exact True.intro
  · rfl
abbrev sTotal : Stmt := topS 12
theorem scTotal : FnScope ["values", "result", "value"] ["values"] (defScope sTotal) := ⟨rfl, rfl, rfl, by decide +kernel, rfl, by decide +kernel, by decide +kernel⟩
theorem ok_total {f zZ : Addr} {fd : FuncData} {k : Nat} (F : Fun K "total" "total" sTotal f fd) (c_plus : Cal P w K mg base k "plus" ["a", "b"] (spPlus K)) (m_ZERO : mg "ZERO" = some (.ref zZ)) (hZ : ∀ H, SqT K H zZ [.int 0, .int 1]) : FnOk P w K mg base CX0 (k + 1) f fd ["values"] (spTotal K) := by
  refine ok_P F scTotal (fun _ => rfl) fun cdv A outer s H0 S xs Q E hr hp out => ⟨_, (pss_cons (ps_set (i := 1) scTotal.nd rfl (Or.inl rfl) (pe_glob (v := .ref zZ) (by rfl) m_ZERO rfl))
      (pss_cons (ps_for PassesOwn.never rfl (pi_list (pv 0)) (pg_name (i := 2) scTotal.nd rfl (Or.inl rfl)) (pss_one (ps_set (i := 1) scTotal.nd rfl (Or.inl rfl) (pe_cal c_plus hr (by rfl) (pa_cons (pv 1) (pa_cons (pv 2) pa_nil))))))
      (pss_one (ps_ret (pv 1))))), ?_⟩
  obtain ⟨hz, hl⟩ := hp
  refine go_set (t := tFr K) (x := 0) (ev_k fun H => ⟨zZ, rfl, hZ H⟩) ?_
  refine go_seq (go_for (iv_list (ev_var rfl)) tgt_name (fun k (_ : Unit) => ([], [some ((tLs K (tFr K)).is xs), some ((tFr K).is (rpre xs k)), none])) (fun _ _ => True) () trivial (fun σ H o => o.sb ?_) (fun k _ x f hx _ => ?_) (fun _ _ σ H o => ?_))
  · walk_at "sb"
  · refine go_set1 (ev_call (z := (_, _)) (ea_cons (ev_var rfl) (ea_cons (ev_var rfl) ea_nil)) ?_) fun σ H o => ⟨(), trivial, o.sb ?_⟩
    · have hk : k < xs.length := (List.getElem?_eq_some_iff.mp hx).1
      refine ⟨(rpre_sz hz k (by omega)).mono (by omega), (hz x (List.mem_of_getElem? hx)).mono (by decide)⟩
    · show Sb [_, some ((tFr K).is (rpre xs k + x)), _] [_, some ((tFr K).is (rpre xs (k + 1))), none]
      rw [rpre_succ hx]
      walk_at "sb"
  · exact go_at o (go_end (y := rpre xs xs.length) (ev_var rfl) out (hp := rpre_all xs))
end
end Cs
set_option maxHeartbeats 4000000
namespace Cs
open PySem PySem.Spec PyProof.Rows L2
local macro_rules | `(tactic| walk_at "rd") => `(tactic| (first
  | (refine ⟨_, rfl, ?_⟩)
  | (refine ⟨_, _, rfl, rfl, ?_⟩)
  | (refine .inl ⟨_, rfl, ?_⟩)
  | (refine .inr ⟨_, rfl, ?_⟩)
  | (refine ⟨_, _, _, _, rfl, rfl, SqL.of upd_same, rfl, ?_⟩)
  | (refine ⟨_, _, _, _, rfl, rfl, upd_same, rfl, ?_⟩)
  | (refine ⟨_, ?xs, _, ?v, rfl, rfl, ?h, ?x, ?_⟩; (case h => first | exact SqL.of (by assumption) | exact SqT.of (by assumption) | assumption); (case x => first | rfl | exact atI_nat (j := 0) rfl | exact atI_nat (j := 1) rfl))))
local macro_rules | `(tactic| walk_at "isi") => `(tactic| (first
  | (refine ⟨_, _, _, _, _, rfl, .ty _, .base (.int _), kit_ty kit_it, ?_⟩)
  | (refine ⟨_, _, _, _, _, rfl, .ty _, .base (.int _), kit_ty kit_ib, ?_⟩)
  | (refine ⟨_, _, _, _, _, rfl, .ty _, .base (.int _), kit_ty kit_ii, ?_⟩)
  | (refine ⟨_, _, _, _, _, rfl, .ty _, .base (.bl _), kit_ty kit_bt, ?_⟩)
  | (refine ⟨_, _, _, _, _, rfl, .ty _, .base (.bl _), kit_ty kit_bb, ?_⟩)
  | (refine ⟨_, _, _, _, _, rfl, .ty _, .base (.bl _), kit_ty kit_bi, ?_⟩)))
local macro_rules | `(tactic| walk_at "ev") => `(tactic| (first
  | exact ev_var rfl
  | exact ev_int
  | exact ev_str
  | exact ev_bl
  | exact ev_non
  | (refine ev_add ?_ ?_ <;> walk_at "ev")
  | (refine ev_sub ?_ ?_ <;> walk_at "ev")
  | (refine ev_mul ?_ ?_ ?_ <;> (try walk_at "ev"))
  | (refine ev_neg ?_ <;> walk_at "ev")
  | (refine ev_num ?_ <;> walk_at "ev")
  | (refine ev_den ?_ <;> walk_at "ev")
  | (refine ev_cmp ?_ ?_ <;> walk_at "ev")
  | (refine ev_eqI ?_ ?_ <;> walk_at "ev")
  | (refine ev_eqS ?_ ?_ <;> walk_at "ev")
  | (refine ev_neI ?_ ?_ <;> walk_at "ev")
  | (refine ev_neS ?_ ?_ <;> walk_at "ev")
  | (refine ev_inS ?_ ?_ <;> walk_at "ev")
  | (refine ev_niS ?_ ?_ <;> walk_at "ev")
  | (refine ev_len ?_ <;> walk_at "ev")
  | (refine ev_list ?_ <;> walk_at "ev")
  | (refine ev_listRev ?_ <;> walk_at "ev")
  | (refine ev_int1 ?_ <;> walk_at "ev")))
local macro_rules | `(tactic| walk_at "ea") => `(tactic| (first
  | exact ea_nil
  | (refine ea_cons ?_ ?_ <;> (first | walk_at "ev" | walk_at "ea" | skip))))
local macro_rules | `(tactic| walk_at "sb") => `(tactic| (first | exact True.intro | (refine And.intro rfl ?_; walk_at "sb")))
section
variable {P : Program} {w : World} {K : PySem.W.Frag} {mg : Str → Option Value} {base : Heap}
def bdF (K : PySem.W.Frag) (b : Bd) : List (Str × SF) := [("name", tSt.is b.name), ("issuer", tSt.is b.issuer), ("units", tInt.is b.units), ("face", (tFr K).is b.face), ("cross", (tOpt (tFr K)).is b.cross)]
abbrev tBd (K : PySem.W.Frag) (CB : Addr) : Ty Bd := tOb CB (bdF K)
/-- what the written part says of the class of bonds -/
structure BondC (K : PySem.W.Frag) (CB : Addr) : Prop where
  cl : Cls K CB
  n0 : NoAttr K CB "name"
  n1 : NoAttr K CB "issuer"
  n2 : NoAttr K CB "units"
  n3 : NoAttr K CB "face"
  n4 : NoAttr K CB "cross"
  n5 : NoAttr K CB "first_day"
  n6 : NoAttr K CB "last_day"
  n7 : NoAttr K CB "months"
  n8 : NoAttr K CB "count"
  n9 : NoAttr K CB "adjust"
  n10 : NoAttr K CB "record"
  n11 : NoAttr K CB "rank"
  n12 : NoAttr K CB "lets"
  n13 : NoAttr K CB "coupon"
  n14 : NoAttr K CB "promises"
  n15 : NoAttr K CB "calls"
abbrev spSize (K : PySem.W.Frag) (CB : Addr) : Sp := spP (fun b : Bd => [(tBd K CB).is b]) (tFr K) BdOk sizeB
abbrev spBound (K : PySem.W.Frag) (CB : Addr) : Sp := spP (fun x : Bd × List Bd => [(tBd K CB).is x.1, (tLs K (tBd K CB)).is x.2]) tBl (fun x => BdOk x.1 ∧ (∀ b ∈ x.2, BdOk b) ∧ x.2.length ≤ 20) (fun x => boundB x.1 x.2)
abbrev sSize : Stmt := topS 14
theorem scSize : FnScope ["bond"] ["bond"] (defScope sSize) := ⟨rfl, rfl, rfl, by decide +kernel, rfl, by decide +kernel, by decide +kernel⟩
theorem ok_size {f CB : Addr} {fd : FuncData} {k : Nat} (F : Fun K "size" "size" sSize f fd) (BC : BondC K CB) (c_fraction1 : CalD P w K mg base k "fraction" ["p", "q"] [.int 1] spFrac) (c_times : Cal P w K mg base k "times" ["a", "b"] (spTimes K)) : FnOk P w K mg base CX0 (k + 1) f fd ["bond"] (spSize K CB) := by
  refine ok_P F scSize (fun _ => rfl) fun cdv A outer s H0 S b Q E hr hp out => ⟨_, (pss_one (ps_ret (pe_cal c_times hr (by rfl) (pa_cons (pe_calD c_fraction1 hr (by rfl) (pa_cons (pe_fld (pv 0) rfl) pa_nil)) (pa_cons (pe_fld (pv 0) rfl) pa_nil))))), ?_⟩
  refine go_end (y := sizeB b) (ev_is (ev_call (z := (_, _)) (ea_cons (ev_frc1 (ev_fld 2 (ev_var rfl) BC.cl BC.n2)) (ea_cons (ev_fld 3 (ev_var rfl) BC.cl BC.n3) ea_nil)) ?_) ?_) out
  · exact ⟨(Sz.int (k := 10) (by have := hp.u0; have := hp.u1; show b.units.natAbs < 1024; omega) (by decide)).mono (by decide), hp.fs.mono (by decide)⟩
  · rfl
abbrev sIsBound : Stmt := topS 16
theorem scIsBound : FnScope ["bond", "others", "other"] ["bond", "others"] (defScope sIsBound) := ⟨rfl, rfl, rfl, by decide +kernel, rfl, by decide +kernel, by decide +kernel⟩
theorem ok_is_bound {f CB : Addr} {fd : FuncData} {k : Nat} (F : Fun K "_is_bound" "_is_bound" sIsBound f fd) (BC : BondC K CB) (c_size : Cal P w K mg base k "size" ["bond"] (spSize K CB)) (c_total : Cal P w K mg base k "total" ["values"] (spTotal K)) (c_order : Cal P w K mg base k "order" ["a", "b"] (spOrder K)) : FnOk P w K mg base CX0 (k + 1) f fd ["bond", "others"] (spBound K CB) := by
  refine ok_P F scIsBound (fun _ => rfl) fun cdv A outer s H0 S x Q E hr hp out => ⟨_, (pss_cons (ps_if (pt_cmpR op_isN (pe_fld (pv 0) rfl) pe_non (nomark _)) (pss_one (ps_ret pe_bl)) pss_nil)
      (pss_one (ps_ret (pe_cmpR op_gt (pe_cal c_order hr (by rfl) (pa_cons (pe_cal c_total hr (by rfl) (pa_cons (pe_lc (own := [("other", 2)]) (g := gName 2)  rfl scIsBound.nd (pi_list (pv 1)) (blkOk_by (own := [("other", 2)]) (N := ["bond", "others", "other"]) (sc := defScope sIsBound) (by decide +kernel)) (fun _ _ _ _ _ => (pg_name (i := 2) scIsBound.nd rfl (Or.inl rfl))) (fun _ _ _ _ _ => (pts_one (pt_cmpR op_eq (pe_fldK (K := K) rfl (pv 2) rfl) (pe_fldK (K := K) rfl (pv 0) rfl) (nomark _)))) (fun _ _ _ _ _ => (pe_cal c_size hr (by rfl) (pa_cons (pv 2) pa_nil)))) pa_nil)) (pa_cons (pe_fld (pv 0) rfl) pa_nil))) pe_int (nomark _))))), ?_⟩
  obtain ⟨⟨nm, iss, un, fc, cr⟩, os⟩ := x
  obtain ⟨hb, ho, hl⟩ := hp
  have hl : os.length ≤ 20 := hl
  have sub : ∀ r ∈ (os.filter fun o => decide (o.issuer = iss)).map sizeB, Sz 20 r := fun r m => by
    obtain ⟨o, m1, rfl⟩ := List.mem_map.mp m
    exact sizeB_sz (ho o (List.mem_filter.mp m1).1)
  have len : ((os.filter fun o => decide (o.issuer = iss)).map sizeB).length ≤ 20 := by
    rw [List.length_map]
    exact Nat.le_trans (List.length_filter_le ..) hl
  cases cr with
  | none => exact go_ifr (et_isN (ev_fld 4 (ev_var rfl) BC.cl BC.n4)) (fun _ => go_end (y := false) ev_bl out) (fun h => by cases h)
  | some c =>
    refine go_ifr (et_isN (ev_fld 4 (ev_var rfl) BC.cl BC.n4)) (fun h => by cases h) (fun _ => ?_)
    refine go_end (y := boundB ⟨nm, iss, un, fc, some c⟩ os) (ev_is (ev_cmp (ev_call (z := (_, _)) (ea_cons (ev_call (z := _) (ea_cons (ev_lcf (K := K) (iv_list (ev_var rfl)) tgt_name (by simp) ?_ (fun _ _ _ x _ xm => (et_of (ev_eqS (ev_fld 1 (ev_var rfl) BC.cl BC.n1) (ev_fld 1 (ev_var rfl) BC.cl BC.n1)))) (fun _ _ _ x _ xm px => (ev_call (z := _) (ea_cons (ev_var rfl) ea_nil) ?_))) ea_nil) ?_) (ea_cons (ev_some (ev_fld 4 (ev_var rfl) BC.cl BC.n4)) ea_nil)) ?_) ev_int) ?_) out
    · show os.length < sizeLine
      rw [sizeLine_eq]
      omega
    · exact ho x xm
    · exact ⟨sub, Nat.le_trans len (by decide)⟩
    · refine ⟨?_, (hb.cs c rfl).mono (by decide)⟩
      exact (rsum_sz sub).mono (by omega)
    · rfl
abbrev sCkN : Stmt := topS 17
theorem scCkN : FnScope ["bonds", "names", "known", "name", "bond"] ["bonds", "names"] (defScope sCkN) := ⟨rfl, rfl, rfl, by decide +kernel, rfl, by decide +kernel, by decide +kernel⟩
abbrev spCkN (K : PySem.W.Frag) (CB : Addr) : Sp := spP (fun x : List Bd × List Str => [(tLs K (tBd K CB)).is x.1, (tLs K tSt).is x.2]) tNn (fun x => (∀ z ∈ x.2, z ∈ x.1.map Bd.name) ∧ x.1.length ≤ 20) (fun _ => ())
theorem go_fall {W : Wd} {C : List RS} {S : List Addr} {P : Unit → Prop} {Q : VK} {σ : L2.St} {H : Hp} (o : Ok W σ H) (out : Rt C S W.H0 tNn P Q) (hp : P ()) (hM : W.M = fps C := by rfl) (hC : ∀ c ∈ C, c ∈ W.L := by first | (intro c z; cases z) | (intro c z; exact z) | simp) (hS : ∀ a, a ∈ S → a ∈ W.S := by first | (intro a z; exact z) | (intro a z; exact List.mem_cons_of_mem _ z) | simp) : Q .non H :=
  out .non () H hp (by rw [← hM]; exact o.bt) (fun a m => o.al a (o.ms a (by rw [hM]; exact m))) (o.rsAt hC hS) rfl
theorem ok_ckn {f CB : Addr} {fd : FuncData} {k : Nat} (F : Fun K "_check_names" "_check_names" sCkN f fd) (BC : BondC K CB) : FnOk P w K mg base CX0 (k + 1) f fd ["bonds", "names"] (spCkN K CB) := by
  refine ok_P F scCkN (fun _ => rfl) fun cdv A outer s H0 S x Q E hr hp out => ?_
  have hu := hu_of hr
  refine ⟨_, (pss_cons (ps_setDc (i := 2) (own := [("bond", 4)]) (g := gName 4) (tt := tYes) rfl scCkN.nd rfl rfl (sw_trueD rfl rfl rfl (by decide +kernel)) (pi_list (pv 0)) (blkOk_by (own := [("bond", 4)]) (N := ["bonds", "names", "known", "name", "bond"]) (sc := defScope sCkN) (by decide +kernel)) (fun _ _ _ _ _ => (pg_name (i := 4) scCkN.nd rfl (Or.inl rfl))) (fun _ _ _ _ _ => pts_nil) (fun _ _ _ _ _ => (pe_fldK (K := K) rfl (pv 4) rfl)) (fun _ _ _ _ _ => pe_bl))
      (pss_one (ps_for PassesOwn.never rfl (pi_list (pv 1)) (pg_name (i := 3) scCkN.nd rfl (Or.inl rfl)) (pss_one (ps_if (pt_cmp (pc_dnotin hu (pv 3) (pv 2))) (pss_one ps_never) pss_nil))))), ?_⟩
  obtain ⟨bs, ns⟩ := x
  obtain ⟨hn, hl⟩ := hp
  have hl : bs.length ≤ 20 := hl
  refine go_dc (f := Bd.name) (iv_list (ev_var rfl)) tgt_name (by simp) (by rw [sizeLine_eq]; omega) (fun _ _ _ x _ xm => (ev_fld 0 (ev_var rfl) BC.cl BC.n0)) (fun _ _ _ x _ xm => ⟨true, ev_bl⟩) fun p => ?_
  refine go_for (iv_list (ev_var rfl)) tgt_name (fun k (_ : Unit) => ([cell p (cKeys (bs.map Bd.name))], [some ((tLs K (tBd K CB)).is bs), some ((tLs K tSt).is ns), some (tRf.is p), none, none])) (fun _ _ => True) () trivial (fun σ H o => o.sb (by walk_at "sb")) (fun k _ x f hx _ => ?_) (fun _ _ σ H o => ?_)
  · have hx : x ∈ bs.map Bd.name := hn x (List.mem_of_getElem? hx)
    refine go_if (et_niK rfl (List.mem_cons_self ..) (ev_var rfl)) (fun h => ?_) (fun _ => go_next fun σ H o => ⟨(), trivial, o.sb (by walk_at "sb")⟩)
    rw [decide_eq_true hx] at h
    cases h
  · exact go_fall o out rfl
/-! ### the bonds in default -/
structure DfArgs where
  bs : List Bd
  ow : List Str
  ex : List Str
structure DfOk (x : DfArgs) : Prop where
  ok : ∀ b ∈ x.bs, BdOk b
  lb : x.bs.length ≤ 20
  lo : x.ow.length ≤ 100
  le : x.ex.length ≤ 100
  io : ∀ z ∈ x.ow, z ∈ x.bs.map Bd.name
  ie : ∀ z ∈ x.ex, z ∈ x.bs.map Bd.name
abbrev spDefaults (K : PySem.W.Frag) (CB : Addr) : Sp := spN (fun _ => []) (fun x : DfArgs => [(tLs K (tBd K CB)).is x.bs, (tLs K tSt).is x.ow, (tLT K tSt).is x.ex]) (tLs K tSt) DfOk (fun x ys => ∃ ks, Least x.bs x.ow x.ex ks ∧ ys = (inN ks x.bs).map Bd.name)
abbrev sDfl : Stmt := topS 15
theorem scDfl : FnScope ["bonds", "own", "exempt", "name", "fallen", "lost", "safe", "bound", "bond"] ["bonds", "own", "exempt"] (defScope sDfl) := ⟨rfl, rfl, rfl, by decide +kernel, rfl, by decide +kernel, by decide +kernel⟩
theorem ok_defaults {f CB : Addr} {fd : FuncData} {k : Nat} {dvs : List V} (F : FunD K "defaults" "defaults" (defArgs sDfl) (defBody sDfl) (defScope sDfl) dvs [] f fd) (BC : BondC K CB) (c_check_names : Cal P w K mg base k "_check_names" ["bonds", "names"] (spCkN K CB)) (c_is_bound : Cal P w K mg base k "_is_bound" ["bond", "others"] (spBound K CB)) : FnOk P w K mg base CX0 (k + 1) f fd ["bonds", "own", "exempt"] (spDefaults K CB) := by
  refine ok_ND F scDfl (fun _ => rfl) fun cdv A outer s H0 S x Q E hr hp out => ?_
  have hu := hu_of hr
  refine ⟨_, (pss_cons (ps_expr (pe_cal c_check_names hr (by rfl) (pa_cons (pv 0) (pa_cons (pe_lst (StX.pa_star (pv 1) (StX.pa_star (pv 2) pa_nil))) pa_nil))))
      (pss_cons (ps_set (i := 4) scDfl.nd rfl (Or.inr rfl) (pe_dc (own := [("name", 3)]) (g := gName 3) (tt := tYes) rfl scDfl.nd (pi_list (pv 1)) (blkOk_by (own := [("name", 3)]) (N := ["bonds", "own", "exempt", "name", "fallen", "lost", "safe", "bound", "bond"]) (sc := defScope sDfl) (by decide +kernel)) (fun _ _ _ _ _ => (pg_name (i := 3) scDfl.nd rfl (Or.inl rfl))) (fun _ _ _ _ _ => pts_nil) (fun _ _ _ _ _ => (pv 3)) (fun _ _ _ _ _ => pe_bl)))
      (pss_one (ps_while PassesOwn.never (pt_val pe_bl) (pss_cons (ps_set (i := 5) scDfl.nd rfl (Or.inr rfl) (pe_lc (own := [("bond", 8)]) (g := gName 8)  rfl scDfl.nd (pi_list (pv 0)) (blkOk_by (own := [("bond", 8)]) (N := ["bonds", "own", "exempt", "name", "fallen", "lost", "safe", "bound", "bond"]) (sc := defScope sDfl) (by decide +kernel)) (fun _ _ _ _ _ => (pg_name (i := 8) scDfl.nd rfl (Or.inl rfl))) (fun _ _ _ _ _ => (pts_one (pt_cmp (pc_din hu (pe_fldK (K := K) rfl (pv 8) rfl) (pv 4))))) (fun _ _ _ _ _ => (pv 8))))
      (pss_cons (ps_setLc (i := 6) (own := [("bond", 8)]) (g := gName 8)  rfl scDfl.nd rfl rfl (sw_true rfl rfl rfl (by decide +kernel)) (pi_list (pv 0)) (blkOk_by (own := [("bond", 8)]) (N := ["bonds", "own", "exempt", "name", "fallen", "lost", "safe", "bound", "bond"]) (sc := defScope sDfl) (by decide +kernel)) (fun _ _ _ _ _ => (pg_name (i := 8) scDfl.nd rfl (Or.inl rfl))) (fun _ _ _ _ _ => (pts_one (PW.pt (pw_and (pt_cmp (pc_dnotin hu (pe_fldK (K := K) rfl (pv 8) rfl) (pv 4))) (pw_and1 (pt_cmpR (op_niK (K := K) rfl) (pe_fldK (K := K) rfl (pv 8) rfl) (pv 2) (by rfl))))))) (fun _ _ _ _ _ => (pv 8)))
      (pss_cons (ps_setLc (i := 7) (own := [("bond", 8)]) (g := gName 8)  rfl scDfl.nd rfl rfl (sw_true rfl rfl rfl (by decide +kernel)) (pi_list (pv 6)) (blkOk_by (own := [("bond", 8)]) (N := ["bonds", "own", "exempt", "name", "fallen", "lost", "safe", "bound", "bond"]) (sc := defScope sDfl) (by decide +kernel)) (fun _ _ _ _ _ => (pg_name (i := 8) scDfl.nd rfl (Or.inl rfl))) (fun _ _ _ _ _ => (pts_one (pt_val (pe_cal c_is_bound hr (by rfl) (pa_cons (pv 8) (pa_cons (pv 5) pa_nil)))))) (fun _ _ _ _ _ => (pe_fldK (K := K) rfl (pv 8) rfl)))
      (pss_cons (ps_if (pt_not (pt_truth (pv 7) (fun _ => rfl))) (pss_one (ps_ret (pe_lc (own := [("bond", 8)]) (g := gName 8) (tt := tYes) rfl scDfl.nd (pi_list (pv 5)) (blkOk_by (own := [("bond", 8)]) (N := ["bonds", "own", "exempt", "name", "fallen", "lost", "safe", "bound", "bond"]) (sc := defScope sDfl) (by decide +kernel)) (fun _ _ _ _ _ => (pg_name (i := 8) scDfl.nd rfl (Or.inl rfl))) (fun _ _ _ _ _ => pts_nil) (fun _ _ _ _ _ => (pe_fldK (K := K) rfl (pv 8) rfl))))) pss_nil)
      (pss_one (ps_for PassesOwn.never rfl (pi_list (pv 7)) (pg_name (i := 3) scDfl.nd rfl (Or.inl rfl)) (pss_one (ps_dput hu (pv 4) (pv 3) pe_bl rfl)))))))))))), ?_⟩
  obtain ⟨bs, ow, ex⟩ := x
  obtain ⟨ok, lb, lo, le, io, ie⟩ := hp
  have ok : ∀ b ∈ bs, BdOk b := ok
  have lb : bs.length ≤ 20 := lb
  have lo : ow.length ≤ 100 := lo
  have le : ex.length ≤ 100 := le
  have sz : ∀ n, n ≤ 10000 → n < sizeLine := fun n h => by rw [sizeLine_eq]; omega
  refine go_drop (ev_call (z := (_, _)) (ea_cons (ev_var rfl) (ea_cons (ev_lst (K := K) (el_star (ev_var rfl) (el_starT (ev_var rfl) el_nil)) ?_) ea_nil)) ?_) ?_
  · show (ow ++ (ex ++ [])).length ≤ sizeLine
    rw [List.length_append, List.length_append, sizeLine_eq]
    show ow.length + (ex.length + 0) ≤ 16777216
    omega
  · refine ⟨fun z m => ?_, lb⟩
    rcases List.mem_append.mp (show z ∈ ow ++ (ex ++ []) from m) with m | m
    · exact io z m
    · exact ie z (by simpa using m)
  refine go_dc (f := fun z : Str => z) (iv_list (ev_var rfl)) tgt_name (by simp) (sz _ (by show ow.length ≤ 10000; omega)) (fun _ _ _ x _ xm => (ev_var rfl)) (fun _ _ _ x _ xm => ⟨true, ev_bl⟩) fun p => ?_
  refine go_while (J := fun ks => ⟨H0, [], p :: S, [cell p (cKeys ks)], [], [some ((tLs K (tBd K CB)).is bs), some ((tLs K tSt).is ow), some ((tLT K tSt).is ex), none, some (tRf.is p), none, none, none, none]⟩)
    (fun ks => (∀ z, z ∈ ow → z ∈ ks) ∧ (∀ T, (∀ z, z ∈ ow → z ∈ T) → Closed bs ex T → ∀ z, z ∈ ks → z ∈ T) ∧ ks.length + 20 * left bs ks ≤ 500) (fun ks => left bs ks) ow ⟨fun z m => m, fun T h _ z m => h z m, by have := left_le bs ow; omega⟩ (fun σ H o => ?_) (fun ks hk => ⟨true, et_B ev_bl, fun _ => ?_, fun h => by cases h⟩)
  · have e : ow.map (fun z : Str => z) = ow := List.map_id' ow
    have o2 := o.sb (F' := []) (G' := [some ((tLs K (tBd K CB)).is bs), some ((tLs K tSt).is ow), some ((tLT K tSt).is ex), none, some (tRf.is p), none, none, none, none]) (by walk_at "sb")
    show Ok ⟨H0, [], p :: S, [cell p (cKeys ow)], [], _⟩ σ H
    rw [show cKeys ow = cKeys (ow.map fun z : Str => z) from by rw [e]]
    exact o2
  obtain ⟨h1, h2, h3⟩ := hk
  let safe := bs.filter fun b => !decide (b.name ∈ ks) && !decide (b.name ∈ ex)
  have ls : safe.length ≤ 20 := Nat.le_trans (List.length_filter_le ..) lb
  have ll : (inN ks bs).length ≤ 20 := Nat.le_trans (List.length_filter_le ..) lb
  have lbd : (bnd bs ex ks).length ≤ 20 := Nat.le_trans (bnd_len bs ex ks) lb
  refine go_set (x := inN ks bs) (ev_is (ev_lcf (K := K) (iv_list (ev_var rfl)) tgt_name (by simp) ?_ (fun _ _ _ x _ xm => (et_inK rfl (List.mem_cons_of_mem _ (List.mem_cons_self ..)) (ev_fld 0 (ev_var rfl) BC.cl BC.n0))) (fun _ _ _ x _ xm px => (ev_var rfl))) ?_) ?_
  · exact sz _ (by show bs.length ≤ 10000; omega)
  · exact List.map_id' _
  refine go_set (x := safe) (ev_is (ev_lcf (K := K) (iv_list (ev_var rfl)) tgt_name (by simp) ?_ (fun _ _ _ x _ xm => (et_and (et_niK rfl (List.mem_cons_of_mem _ (List.mem_cons_self ..)) (ev_fld 0 (ev_var rfl) BC.cl BC.n0)) (fun qa => (et_of (ev_niT (ev_fld 0 (ev_var rfl) BC.cl BC.n0) (ev_var rfl)))))) (fun _ _ _ x _ xm px => (ev_var rfl))) ?_) ?_
  · exact sz _ (by show bs.length ≤ 10000; omega)
  · exact List.map_id' _
  refine go_set (x := bnd bs ex ks) (ev_is (ev_lcf (K := K) (iv_list (ev_var rfl)) tgt_name (by simp) ?_ (fun _ _ _ x _ xm => (et_B (ev_call (z := (_, _)) (ea_cons (ev_var rfl) (ea_cons (ev_var rfl) ea_nil)) ?_))) (fun _ _ _ x _ xm px => (ev_fld 0 (ev_var rfl) BC.cl BC.n0))) ?_) ?_
  · exact sz _ (by omega)
  · exact ⟨ok x (List.mem_filter.mp xm).1, fun b m => ok b (List.mem_filter.mp m).1, ll⟩
  · rfl
  refine go_ifr (et_not (et_tru (ev_var rfl))) (fun h => ?_) (fun h => ?_)
  · have h0 : bnd bs ex ks = [] := by simpa using h
    refine go_end (y := (inN ks bs).map Bd.name) (ev_lcm (K := K) (iv_list (ev_var rfl)) tgt_name (by simp) ?_ (fun _ _ _ x _ xm => (ev_fld 0 (ev_var rfl) BC.cl BC.n0))) out (hp := ⟨ks, ⟨h1, bnd_closed h0, h2⟩, rfl⟩)
    exact sz _ (by omega)
  · have h0 : bnd bs ex ks ≠ [] := by simpa using h
    refine go_for (iv_list (ev_var rfl)) tgt_name (fun k (_ : Unit) => ([cell p (cKeys (ks ++ (bnd bs ex ks).take k))], [some ((tLs K (tBd K CB)).is bs), some ((tLs K tSt).is ow), some ((tLT K tSt).is ex), none, some (tRf.is p), none, none, none, none])) (fun _ _ => True) () trivial (fun σ H o => ?_) (fun k _ x f hx _ => ?_) (fun _ _ σ H o => ?_)
    · have o2 := o.sb (F' := []) (G' := [some ((tLs K (tBd K CB)).is bs), some ((tLs K tSt).is ow), some ((tLT K tSt).is ex), none, some (tRf.is p), none, none, none, none]) (by walk_at "sb")
      show Ok ⟨H0, [], p :: S, [cell p (cKeys (ks ++ []))], [], _⟩ σ H
      rw [List.append_nil]
      exact o2
    · refine go_putK (z := x) rfl (List.Perm.refl _) (ev_var rfl) ev_bl ?_ fun σ H o => ⟨(), trivial, ?_⟩
      · refine sz _ ?_
        rw [List.length_append, List.length_take]
        omega
      · have o2 := o.sb (F' := f :: []) (G' := [some ((tLs K (tBd K CB)).is bs), some ((tLs K tSt).is ow), some ((tLT K tSt).is ex), none, some (tRf.is p), none, none, none, none]) (by walk_at "sb")
        show Ok ⟨H0, [], p :: S, [cell p (cKeys (ks ++ (bnd bs ex ks).take (k + 1)))], f :: [], _⟩ σ H
        rw [take_snoc hx, ← List.append_assoc]
        exact o2
    · have o2 : Ok ⟨H0, [], p :: S, [cell p (cKeys (ks ++ (bnd bs ex ks).take (bnd bs ex ks).length))], [], [some ((tLs K (tBd K CB)).is bs), some ((tLs K tSt).is ow), some ((tLT K tSt).is ex), none, some (tRf.is p), none, none, none, none]⟩ σ H := o
      rw [List.take_length] at o2
      have lt := left_lt (bs := bs) h0
      refine ⟨ks ++ bnd bs ex ks, ⟨fun z m => List.mem_append_left _ (h1 z m), fun T a c z m => ?_, ?_⟩, lt, o2⟩
      · rcases List.mem_append.mp m with m | m
        · exact h2 T a c z m
        · exact bnd_least ok (h2 T a c) c z m
      · rw [List.length_append]
        omega
end
end Cs
set_option maxHeartbeats 4000000
namespace Cs
open PySem PySem.Spec PyProof.Rows L2
local macro_rules | `(tactic| walk_at "rd") => `(tactic| (first
  | (refine ⟨_, rfl, ?_⟩)
  | (refine ⟨_, _, rfl, rfl, ?_⟩)
  | (refine .inl ⟨_, rfl, ?_⟩)
  | (refine .inr ⟨_, rfl, ?_⟩)
  | (refine ⟨_, _, _, _, rfl, rfl, SqL.of upd_same, rfl, ?_⟩)
  | (refine ⟨_, _, _, _, rfl, rfl, upd_same, rfl, ?_⟩)
  | (refine ⟨_, ?xs, _, ?v, rfl, rfl, ?h, ?x, ?_⟩; (case h => first | exact SqL.of (by assumption) | exact SqT.of (by assumption) | assumption); (case x => first | rfl | exact atI_nat (j := 0) rfl | exact atI_nat (j := 1) rfl))))
local macro_rules | `(tactic| walk_at "isi") => `(tactic| (first
  | (refine ⟨_, _, _, _, _, rfl, .ty _, .base (.int _), kit_ty kit_it, ?_⟩)
  | (refine ⟨_, _, _, _, _, rfl, .ty _, .base (.int _), kit_ty kit_ib, ?_⟩)
  | (refine ⟨_, _, _, _, _, rfl, .ty _, .base (.int _), kit_ty kit_ii, ?_⟩)
  | (refine ⟨_, _, _, _, _, rfl, .ty _, .base (.bl _), kit_ty kit_bt, ?_⟩)
  | (refine ⟨_, _, _, _, _, rfl, .ty _, .base (.bl _), kit_ty kit_bb, ?_⟩)
  | (refine ⟨_, _, _, _, _, rfl, .ty _, .base (.bl _), kit_ty kit_bi, ?_⟩)))
local macro_rules | `(tactic| walk_at "ev") => `(tactic| (first
  | exact ev_var rfl
  | exact ev_int
  | exact ev_str
  | exact ev_bl
  | exact ev_non
  | (refine ev_add ?_ ?_ <;> walk_at "ev")
  | (refine ev_sub ?_ ?_ <;> walk_at "ev")
  | (refine ev_mul ?_ ?_ ?_ <;> (try walk_at "ev"))
  | (refine ev_neg ?_ <;> walk_at "ev")
  | (refine ev_num ?_ <;> walk_at "ev")
  | (refine ev_den ?_ <;> walk_at "ev")
  | (refine ev_cmp ?_ ?_ <;> walk_at "ev")
  | (refine ev_eqI ?_ ?_ <;> walk_at "ev")
  | (refine ev_eqS ?_ ?_ <;> walk_at "ev")
  | (refine ev_neI ?_ ?_ <;> walk_at "ev")
  | (refine ev_neS ?_ ?_ <;> walk_at "ev")
  | (refine ev_inS ?_ ?_ <;> walk_at "ev")
  | (refine ev_niS ?_ ?_ <;> walk_at "ev")
  | (refine ev_len ?_ <;> walk_at "ev")
  | (refine ev_list ?_ <;> walk_at "ev")
  | (refine ev_listRev ?_ <;> walk_at "ev")
  | (refine ev_int1 ?_ <;> walk_at "ev")))
local macro_rules | `(tactic| walk_at "ea") => `(tactic| (first
  | exact ea_nil
  | (refine ea_cons ?_ ?_ <;> (first | walk_at "ev" | walk_at "ea" | skip))))
local macro_rules | `(tactic| walk_at "sb") => `(tactic| (first | exact True.intro | (refine And.intro rfl ?_; walk_at "sb")))
section
variable {P : Program} {w : World} {K : PySem.W.Frag} {mg : Str → Option Value} {base : Heap}
abbrev spLAdd (K : PySem.W.Frag) : Sp := spP (AFr2 K) (tFr K) (fun x => Sz 1000 x.1 ∧ Sz 1000 x.2) (fun x => x.1 + x.2)
abbrev spLOrder (K : PySem.W.Frag) : Sp := spP (AFr2 K) tInt (fun x => Sz 1000 x.1 ∧ Sz 1000 x.2) (fun x => cmpR x.1 x.2)
theorem s24 {n : Nat} {i : Int} (h : i.natAbs < 2 ^ n) (k : n ≤ 2400) : i.natAbs < 2 ^ 2400 := Nat.lt_of_lt_of_le h (Nat.pow_le_pow_right (by decide) k)
abbrev sLAdd : Stmt := topS 25
theorem scLAdd : FnScope ["a", "b"] ["a", "b"] (defScope sLAdd) := ⟨rfl, rfl, rfl, by decide +kernel, rfl, by decide +kernel, by decide +kernel⟩
theorem ok_ladd {f : Addr} {fd : FuncData} {k : Nat} (F : Fun K "_law_add" "_law_add" sLAdd f fd) (c_law_ratio : Cal P w K mg base k "_law_ratio" ["p", "q"] spRatio) : FnOk P w K mg base CX0 (k + 1) f fd ["a", "b"] (spLAdd K) := by
  refine ok_P F scLAdd (fun _ => rfl) fun cdv A outer s H0 S x Q E hr hp out => ⟨_, (pss_one (ps_ret (pe_cal c_law_ratio hr (by rfl) (pa_cons (pe_op op_add (pe_op op_mulA (pe_ix ix_tup (pv 0) pe_int (fun _ _ => rfl)) (pe_ix ix_tup (pv 1) pe_int (fun _ _ => rfl))) (pe_op op_mulA (pe_ix ix_tup (pv 1) pe_int (fun _ _ => rfl)) (pe_ix ix_tup (pv 0) pe_int (fun _ _ => rfl)))) (pa_cons (pe_op op_mulA (pe_ix ix_tup (pv 0) pe_int (fun _ _ => rfl)) (pe_ix ix_tup (pv 1) pe_int (fun _ _ => rfl))) pa_nil))))), ?_⟩
  obtain ⟨h, g⟩ := hp
  refine go_end (y := x.1 + x.2) (ev_is (ev_ratio (ev_add (ev_mul (ev_num (ev_var rfl)) (ev_den (ev_var rfl)) ?_) (ev_mul (ev_num (ev_var rfl)) (ev_den (ev_var rfl)) ?_)) (ev_mul (ev_den (ev_var rfl)) (ev_den (ev_var rfl)) ?_) ?_ ?_ ?_) ?_) out
  · exact mulZ h.nn g.dd
  · exact mulZ g.nn h.dd
  · exact mulZ h.dd g.dd
  · exact Int.mul_ne_zero (den_ne _) (den_ne _)
  · exact s24 (n := 2001) (add_lt (pow_lt h.nn g.dd) (pow_lt g.nn h.dd)) (by decide)
  · exact s24 (pow_lt h.dd g.dd) (by decide)
  · exact add_div _ _
abbrev sLOrder : Stmt := topS 26
theorem scLOrder : FnScope ["a", "b", "difference"] ["a", "b"] (defScope sLOrder) := ⟨rfl, rfl, rfl, by decide +kernel, rfl, by decide +kernel, by decide +kernel⟩
theorem ok_lorder {f : Addr} {fd : FuncData} {k : Nat} (F : Fun K "_law_order" "_law_order" sLOrder f fd) (z_int : mg "int" = none) : FnOk P w K mg base CX0 (k + 1) f fd ["a", "b"] (spLOrder K) := by
  refine ok_P F scLOrder (fun _ => rfl) fun cdv A outer s H0 S x Q E hr hp out => ⟨_, (pss_cons (ps_set (i := 2) scLOrder.nd rfl (Or.inl rfl) (pe_op op_sub (pe_op op_mulA (pe_ix ix_tup (pv 0) pe_int (fun _ _ => rfl)) (pe_ix ix_tup (pv 1) pe_int (fun _ _ => rfl))) (pe_op op_mulA (pe_ix ix_tup (pv 1) pe_int (fun _ _ => rfl)) (pe_ix ix_tup (pv 0) pe_int (fun _ _ => rfl)))))
      (pss_one (ps_ret (pe_op op_sub (pe_callTy call_int1 (by rfl) z_int (by decide +kernel) (pa_cons (pe_cmpR op_gt (pv 2) pe_int (nomark _)) pa_nil)) (pe_callTy call_int1 (by rfl) z_int (by decide +kernel) (pa_cons (pe_cmpR op_lt (pv 2) pe_int (nomark _)) pa_nil)))))), ?_⟩
  obtain ⟨h, g⟩ := hp
  refine go_set (ev_sub (ev_mul (ev_num (ev_var rfl)) (ev_den (ev_var rfl)) ?_) (ev_mul (ev_num (ev_var rfl)) (ev_den (ev_var rfl)) ?_)) ?_
  · exact mulZ h.nn g.dd
  · exact mulZ g.nn h.dd
  refine go_end (y := cmpR x.1 x.2) (ev_is (ev_sub (ev_intB (ev_cmp (ev_var rfl) ev_int)) (ev_intB (ev_cmp (ev_var rfl) ev_int))) ?_) out
  unfold cmpR
  generalize x.1.num * (x.2.den : Int) - x.2.num * (x.1.den : Int) = d
  show (if decide (0 < d) = true then (1 : Int) else 0) - (if decide (d < 0) = true then 1 else 0) = d.sign
  rcases Int.lt_trichotomy d 0 with q | q | q
  · rw [Int.sign_eq_neg_one_of_neg q, decide_eq_true q, decide_eq_false (by omega)]; rfl
  · subst q; rfl
  · rw [Int.sign_eq_one_of_pos q, decide_eq_true q, decide_eq_false (by omega)]; rfl
abbrev sLTotal : Stmt := topS 27
theorem scLTotal : FnScope ["values", "result", "value"] ["values"] (defScope sLTotal) := ⟨rfl, rfl, rfl, by decide +kernel, rfl, by decide +kernel, by decide +kernel⟩
theorem ok_ltotal {f : Addr} {fd : FuncData} {k : Nat} (F : Fun K "_law_total" "_law_total" sLTotal f fd) (c_law_add : Cal P w K mg base k "_law_add" ["a", "b"] (spLAdd K)) : FnOk P w K mg base CX0 (k + 1) f fd ["values"] (spTotal K) := by
  refine ok_P F scLTotal (fun _ => rfl) fun cdv A outer s H0 S xs Q E hr hp out => ⟨_, (pss_cons (ps_set (i := 1) scLTotal.nd rfl (Or.inl rfl) (pe_tup (pa_cons pe_int (pa_cons pe_int pa_nil))))
      (pss_cons (ps_for PassesOwn.never rfl (pi_list (pv 0)) (pg_name (i := 2) scLTotal.nd rfl (Or.inl rfl)) (pss_one (ps_set (i := 1) scLTotal.nd rfl (Or.inl rfl) (pe_cal c_law_add hr (by rfl) (pa_cons (pv 1) (pa_cons (pv 2) pa_nil))))))
      (pss_one (ps_ret (pv 1))))), ?_⟩
  obtain ⟨hz, hl⟩ := hp
  refine go_set (x := (0 : Rat)) (ev_is (ev_fracI (K := K) ev_int) rfl) ?_
  refine go_seq (go_for (iv_list (ev_var rfl)) tgt_name (fun k (_ : Unit) => ([], [some ((tLs K (tFr K)).is xs), some ((tFr K).is (rpre xs k)), none])) (fun _ _ => True) () trivial (fun σ H o => o.sb ?_) (fun k _ x f hx _ => ?_) (fun _ _ σ H o => ?_))
  · walk_at "sb"
  · refine go_set1 (ev_call (z := (_, _)) (ea_cons (ev_var rfl) (ea_cons (ev_var rfl) ea_nil)) ?_) fun σ H o => ⟨(), trivial, o.sb ?_⟩
    · have hk : k < xs.length := (List.getElem?_eq_some_iff.mp hx).1
      exact ⟨(rpre_sz hz k (by omega)).mono (by omega), (hz x (List.mem_of_getElem? hx)).mono (by decide)⟩
    · show Sb [_, some ((tFr K).is (rpre xs k + x)), _] [_, some ((tFr K).is (rpre xs (k + 1))), none]
      rw [rpre_succ hx]
      walk_at "sb"
  · exact go_at o (go_end (y := rpre xs xs.length) (ev_var rfl) out (hp := rpre_all xs))
abbrev sLSize : Stmt := topS 29
theorem scLSize : FnScope ["bond"] ["bond"] (defScope sLSize) := ⟨rfl, rfl, rfl, by decide +kernel, rfl, by decide +kernel, by decide +kernel⟩
theorem ok_lsize {f CB : Addr} {fd : FuncData} {k : Nat} (F : Fun K "_law_size" "_law_size" sLSize f fd) (BC : BondC K CB) (c_law_ratio : Cal P w K mg base k "_law_ratio" ["p", "q"] spRatio) : FnOk P w K mg base CX0 (k + 1) f fd ["bond"] (spSize K CB) := by
  refine ok_P F scLSize (fun _ => rfl) fun cdv A outer s H0 S b Q E hr hp out => ⟨_, (pss_one (ps_ret (pe_cal c_law_ratio hr (by rfl) (pa_cons (pe_op op_mulA (pe_fld (pv 0) rfl) (pe_ix ix_tup (pe_fld (pv 0) rfl) pe_int (fun _ _ => rfl))) (pa_cons (pe_ix ix_tup (pe_fld (pv 0) rfl) pe_int (fun _ _ => rfl)) pa_nil))))), ?_⟩
  have hu : b.units.natAbs < 2 ^ 1000 := Nat.lt_of_lt_of_le (show b.units.natAbs < 2 ^ 10 by have := hp.u0; have := hp.u1; show b.units.natAbs < 1024; omega) (Nat.pow_le_pow_right (by decide) (by decide))
  have hf := hp.fs.mono (show 10 ≤ 1000 by decide)
  refine go_end (y := sizeB b) (ev_is (ev_ratio (ev_mul (ev_fld 2 (ev_var rfl) BC.cl BC.n2) (ev_num (ev_fld 3 (ev_var rfl) BC.cl BC.n3)) ?_) (ev_den (ev_fld 3 (ev_var rfl) BC.cl BC.n3)) ?_ ?_ ?_) ?_) out
  · exact mulZ hu hf.nn
  · exact den_ne _
  · exact s24 (pow_lt hu hf.nn) (by decide)
  · exact s24 hf.dd (by decide)
  · have := mul_div (b.units : Rat) b.face
    rw [Rat.num_intCast, Rat.den_intCast] at this
    rw [← show Rat.divInt (b.units * b.face.num) (((1 : Nat) : Int) * (b.face.den : Int)) = sizeB b from this]
    congr 1
    omega
theorem name_inj {bs : List Bd} (nd : (bs.map Bd.name).Nodup) {b c : Bd} (hb : b ∈ bs) (hc : c ∈ bs) (e : b.name = c.name) : b = c := by
  induction bs with
  | nil => cases hb
  | cons x bs ih =>
    rw [List.map_cons, List.nodup_cons] at nd
    rcases List.mem_cons.mp hb with q | q <;> rcases List.mem_cons.mp hc with q' | q'
    · rw [q, q']
    · subst q; exact absurd (e ▸ List.mem_map.mpr ⟨c, q', rfl⟩) nd.1
    · subst q'; exact absurd (e ▸ List.mem_map.mpr ⟨b, q, rfl⟩) nd.1
    · exact ih nd.2 q q'
theorem only_name {bs : List Bd} (nd : (bs.map Bd.name).Nodup) {b : Bd} (hb : b ∈ bs) : (bs.filter fun r => decide (r.name = b.name)) = [b] := by
  induction bs with
  | nil => cases hb
  | cons x bs ih =>
    rw [List.map_cons, List.nodup_cons] at nd
    rcases List.mem_cons.mp hb with q | q
    · subst q
      rw [List.filter_cons_of_pos (by simp)]
      congr 1
      refine List.filter_eq_nil_iff.mpr fun c m => ?_
      simp only [decide_eq_true_eq]
      exact fun e => nd.1 (e ▸ List.mem_map.mpr ⟨c, m, rfl⟩)
    · rw [List.filter_cons_of_neg, ih nd.2 q]
      simp only [decide_eq_true_eq]
      exact fun e => nd.1 (e ▸ List.mem_map.mpr ⟨b, q, rfl⟩)
structure LbArgs where
  bs : List Bd
  b : Bd
  ns : List Str
structure LbOk (x : LbArgs) : Prop where
  m : x.b ∈ x.bs
  nd : (x.bs.map Bd.name).Nodup
  ni : x.b.name ∉ x.ns
  ok : ∀ b ∈ x.bs, BdOk b
  l : x.bs.length ≤ 20
abbrev spLBound (K : PySem.W.Frag) (CB : Addr) : Sp := spP (fun x : LbArgs => [(tLs K (tBd K CB)).is x.bs, tSt.is x.b.name, (tLs K tSt).is x.ns]) tBl LbOk (fun x => boundB x.b (inN x.ns x.bs))
abbrev sLBound : Stmt := topS 30
theorem scLBound : FnScope ["bonds", "name", "names", "bond", "others", "row"] ["bonds", "name", "names"] (defScope sLBound) := ⟨rfl, rfl, rfl, by decide +kernel, rfl, by decide +kernel, by decide +kernel⟩
theorem ok_lbound {f CB : Addr} {fd : FuncData} {k : Nat} (F : Fun K "_law_bound" "_law_bound" sLBound f fd) (BC : BondC K CB) (c_law_size : Cal P w K mg base k "_law_size" ["bond"] (spSize K CB)) (c_law_total : Cal P w K mg base k "_law_total" ["values"] (spTotal K)) (c_law_order : Cal P w K mg base k "_law_order" ["a", "b"] (spLOrder K)) : FnOk P w K mg base CX0 (k + 1) f fd ["bonds", "name", "names"] (spLBound K CB) := by
  refine ok_P F scLBound (fun _ => rfl) fun cdv A outer s H0 S x Q E hr hp out => ⟨_, (pss_cons (ps_set (i := 3) scLBound.nd rfl (Or.inr rfl) (pe_ix ix_list (pe_lc (own := [("row", 5)]) (g := gName 5)  rfl scLBound.nd (pi_list (pv 0)) (blkOk_by (own := [("row", 5)]) (N := ["bonds", "name", "names", "bond", "others", "row"]) (sc := defScope sLBound) (by decide +kernel)) (fun _ _ _ _ _ => (pg_name (i := 5) scLBound.nd rfl (Or.inl rfl))) (fun _ _ _ _ _ => (pts_one (pt_cmpR op_eq (pe_fldK (K := K) rfl (pv 5) rfl) (pv 1) (nomark _)))) (fun _ _ _ _ _ => (pv 5))) pe_int (fun _ _ => rfl)))
      (pss_cons (ps_if (pt_cmpR op_isN (pe_fld (pv 3) rfl) pe_non (nomark _)) (pss_one (ps_ret pe_bl)) pss_nil)
      (pss_cons (ps_setLc (i := 4) (own := [("row", 5)]) (g := gName 5)  rfl scLBound.nd rfl rfl (sw_true rfl rfl rfl (by decide +kernel)) (pi_list (pv 0)) (blkOk_by (own := [("row", 5)]) (N := ["bonds", "name", "names", "bond", "others", "row"]) (sc := defScope sLBound) (by decide +kernel)) (fun _ _ _ _ _ => (pg_name (i := 5) scLBound.nd rfl (Or.inl rfl))) (fun _ _ _ _ _ => (pts_one (PW.pt (pw_and (pt_cmpR (op_inK (K := K) rfl) (pe_fldK (K := K) rfl (pv 5) rfl) (pv 2) (by rfl)) (pw_and (pt_cmpR op_ne (pe_fldK (K := K) rfl (pv 5) rfl) (pv 1) (nomark _)) (pw_and1 (pt_cmpR op_eq (pe_fldK (K := K) rfl (pv 5) rfl) (pe_fldK (K := K) rfl (pv 3) rfl) (nomark _)))))))) (fun _ _ _ _ _ => (pv 5)))
      (pss_one (ps_ret (pe_cmpR op_gt (pe_cal c_law_order hr (by rfl) (pa_cons (pe_cal c_law_total hr (by rfl) (pa_cons (pe_lc (own := [("row", 5)]) (g := gName 5) (tt := tYes) rfl scLBound.nd (pi_list (pv 4)) (blkOk_by (own := [("row", 5)]) (N := ["bonds", "name", "names", "bond", "others", "row"]) (sc := defScope sLBound) (by decide +kernel)) (fun _ _ _ _ _ => (pg_name (i := 5) scLBound.nd rfl (Or.inl rfl))) (fun _ _ _ _ _ => pts_nil) (fun _ _ _ _ _ => (pe_cal c_law_size hr (by rfl) (pa_cons (pv 5) pa_nil)))) pa_nil)) (pa_cons (pe_fld (pv 3) rfl) pa_nil))) pe_int (nomark _))))))), ?_⟩
  obtain ⟨bs, b, ns⟩ := x
  obtain ⟨m, nd, ni, ok, l⟩ := hp
  have m : b ∈ bs := m
  have nd : (bs.map Bd.name).Nodup := nd
  have ni : b.name ∉ ns := ni
  have ok : ∀ b ∈ bs, BdOk b := ok
  have l : bs.length ≤ 20 := l
  have lz : bs.length < sizeLine := by rw [sizeLine_eq]; omega
  refine go_set (x := b) (ev_ixL (ev_lcf (K := K) (iv_list (ev_var rfl)) tgt_name (by simp) ?_ (fun _ _ _ x _ xm => (et_of (ev_eqS (ev_fld 0 (ev_var rfl) BC.cl BC.n0) (ev_var rfl)))) (fun _ _ _ x _ xm px => (ev_var rfl))) ev_int ?_) ?_
  · exact lz
  · show atI ((bs.filter fun r => decide (r.name = b.name)).map fun r => r) 0 = some b
    rw [only_name nd m]
    rfl
  have hb := ok b m
  have sub : ∀ r ∈ ((inN ns bs).filter fun o => decide (o.issuer = b.issuer)).map sizeB, Sz 20 r := fun r mm => by
    obtain ⟨o, m1, rfl⟩ := List.mem_map.mp mm
    exact sizeB_sz (ok o (List.mem_filter.mp (List.mem_filter.mp m1).1).1)
  have len0 : ((inN ns bs).filter fun o => decide (o.issuer = b.issuer)).length ≤ 20 := Nat.le_trans (List.length_filter_le ..) (Nat.le_trans (List.length_filter_le ..) l)
  have len : (((inN ns bs).filter fun o => decide (o.issuer = b.issuer)).map sizeB).length ≤ 20 := by
    rw [List.length_map]
    exact len0
  have eqF : ((bs.filter fun r => decide (r.name ∈ ns) && (!decide (r.name = b.name) && decide (r.issuer = b.issuer))).map fun r => r) = (inN ns bs).filter fun o => decide (o.issuer = b.issuer) := by
    rw [List.map_id']
    unfold inN
    rw [List.filter_filter]
    refine List.filter_congr fun r mr => ?_
    by_cases q : r.name ∈ ns
    · have : r.name ≠ b.name := fun e => ni (e ▸ q)
      simp [q, this]
    · simp [q]
  obtain ⟨nm, iss, un, fc, cr⟩ := b
  cases cr with
  | none => exact go_ifr (et_isN (ev_fld 4 (ev_var rfl) BC.cl BC.n4)) (fun _ => go_end (y := false) ev_bl out) (fun h => by cases h)
  | some c =>
    refine go_ifr (et_isN (ev_fld 4 (ev_var rfl) BC.cl BC.n4)) (fun h => by cases h) (fun _ => ?_)
    refine go_set (x := (inN ns bs).filter fun o => decide (o.issuer = iss)) (ev_is (ev_lcf (K := K) (iv_list (ev_var rfl)) tgt_name (by simp) ?_ (fun _ _ _ x _ xm => (et_and (et_of (ev_inS (ev_fld 0 (ev_var rfl) BC.cl BC.n0) (ev_var rfl))) (fun qa => (et_and (et_of (ev_neS (ev_fld 0 (ev_var rfl) BC.cl BC.n0) (ev_var rfl))) (fun qb => (et_of (ev_eqS (ev_fld 1 (ev_var rfl) BC.cl BC.n1) (ev_fld 1 (ev_var rfl) BC.cl BC.n1)))))))) (fun _ _ _ x _ xm px => (ev_var rfl))) eqF) ?_
    · exact lz
    refine go_end (y := boundB ⟨nm, iss, un, fc, some c⟩ (inN ns bs)) (ev_is (ev_cmp (ev_call (z := (_, _)) (ea_cons (ev_call (z := _) (ea_cons (ev_lcm (K := K) (iv_list (ev_var rfl)) tgt_name (by simp) ?_ (fun _ _ _ x _ xm => (ev_call (z := _) (ea_cons (ev_var rfl) ea_nil) ?_))) ea_nil) ?_) (ea_cons (ev_some (ev_fld 4 (ev_var rfl) BC.cl BC.n4)) ea_nil)) ?_) ev_int) ?_) out
    · exact Nat.lt_of_le_of_lt len0 (by rw [sizeLine_eq]; omega)
    · exact ok x (List.mem_filter.mp (List.mem_filter.mp xm).1).1
    · exact ⟨sub, Nat.le_trans len (by decide)⟩
    · refine ⟨?_, (hb.cs c rfl).mono (by decide)⟩
      have h1 := rsum_sz sub
      exact h1.mono (by omega)
    · rfl
end
end Cs
set_option maxHeartbeats 4000000
namespace Cs
open PySem PySem.Spec PyProof.Rows L2
local macro_rules | `(tactic| walk_at "rd") => `(tactic| (first
  | (refine ⟨_, rfl, ?_⟩)
  | (refine ⟨_, _, rfl, rfl, ?_⟩)
  | (refine .inl ⟨_, rfl, ?_⟩)
  | (refine .inr ⟨_, rfl, ?_⟩)
  | (refine ⟨_, _, _, _, rfl, rfl, SqL.of upd_same, rfl, ?_⟩)
  | (refine ⟨_, _, _, _, rfl, rfl, upd_same, rfl, ?_⟩)
  | (refine ⟨_, ?xs, _, ?v, rfl, rfl, ?h, ?x, ?_⟩; (case h => first | exact SqL.of (by assumption) | exact SqT.of (by assumption) | assumption); (case x => first | rfl | exact atI_nat (j := 0) rfl | exact atI_nat (j := 1) rfl))))
local macro_rules | `(tactic| walk_at "isi") => `(tactic| (first
  | (refine ⟨_, _, _, _, _, rfl, .ty _, .base (.int _), kit_ty kit_it, ?_⟩)
  | (refine ⟨_, _, _, _, _, rfl, .ty _, .base (.int _), kit_ty kit_ib, ?_⟩)
  | (refine ⟨_, _, _, _, _, rfl, .ty _, .base (.int _), kit_ty kit_ii, ?_⟩)
  | (refine ⟨_, _, _, _, _, rfl, .ty _, .base (.bl _), kit_ty kit_bt, ?_⟩)
  | (refine ⟨_, _, _, _, _, rfl, .ty _, .base (.bl _), kit_ty kit_bb, ?_⟩)
  | (refine ⟨_, _, _, _, _, rfl, .ty _, .base (.bl _), kit_ty kit_bi, ?_⟩)))
local macro_rules | `(tactic| walk_at "ev") => `(tactic| (first
  | exact ev_var rfl
  | exact ev_int
  | exact ev_str
  | exact ev_bl
  | exact ev_non
  | (refine ev_add ?_ ?_ <;> walk_at "ev")
  | (refine ev_sub ?_ ?_ <;> walk_at "ev")
  | (refine ev_mul ?_ ?_ ?_ <;> (try walk_at "ev"))
  | (refine ev_neg ?_ <;> walk_at "ev")
  | (refine ev_num ?_ <;> walk_at "ev")
  | (refine ev_den ?_ <;> walk_at "ev")
  | (refine ev_cmp ?_ ?_ <;> walk_at "ev")
  | (refine ev_eqI ?_ ?_ <;> walk_at "ev")
  | (refine ev_eqS ?_ ?_ <;> walk_at "ev")
  | (refine ev_neI ?_ ?_ <;> walk_at "ev")
  | (refine ev_neS ?_ ?_ <;> walk_at "ev")
  | (refine ev_inS ?_ ?_ <;> walk_at "ev")
  | (refine ev_niS ?_ ?_ <;> walk_at "ev")
  | (refine ev_len ?_ <;> walk_at "ev")
  | (refine ev_list ?_ <;> walk_at "ev")
  | (refine ev_listRev ?_ <;> walk_at "ev")
  | (refine ev_int1 ?_ <;> walk_at "ev")))
local macro_rules | `(tactic| walk_at "ea") => `(tactic| (first
  | exact ea_nil
  | (refine ea_cons ?_ ?_ <;> (first | walk_at "ev" | walk_at "ea" | skip))))
local macro_rules | `(tactic| walk_at "sb") => `(tactic| (first | exact True.intro | (refine And.intro rfl ?_; walk_at "sb")))
section
variable {P : Program} {w : World} {K : PySem.W.Frag} {mg : Str → Option Value} {base : Heap}
structure LcArgs where
  bs : List Bd
  ow : List Str
  ex : List Str
  ns : List Str
structure LcOk (x : LcArgs) : Prop where
  nd : (x.bs.map Bd.name).Nodup
  ok : ∀ b ∈ x.bs, BdOk b
  l : x.bs.length ≤ 20
def clB (ow ex ns : List Str) (bs : List Bd) (b : Bd) : Bool := !(decide (b.name ∈ ow) && !decide (b.name ∈ ns)) && !(!decide (b.name ∈ ns) && (!decide (b.name ∈ ex) && boundB b (inN ns bs)))
def closedB (x : LcArgs) : Bool := x.bs.all (clB x.ow x.ex x.ns x.bs)
theorem clB_iff {ow ex ns : List Str} {bs : List Bd} {b : Bd} : clB ow ex ns bs b = true ↔ (b.name ∈ ow → b.name ∈ ns) ∧ (b.name ∉ ns → b.name ∉ ex → boundB b (inN ns bs) = false) := by
  unfold clB
  by_cases h1 : b.name ∈ ow <;> by_cases h2 : b.name ∈ ns <;> by_cases h3 : b.name ∈ ex <;> simp [h1, h2, h3]
theorem closedB_iff {x : LcArgs} : closedB x = true ↔ (∀ b ∈ x.bs, b.name ∈ x.ow → b.name ∈ x.ns) ∧ Closed x.bs x.ex x.ns := by
  unfold closedB
  rw [List.all_eq_true]
  exact ⟨fun h => ⟨fun b m => (clB_iff.mp (h b m)).1, fun b m => (clB_iff.mp (h b m)).2⟩, fun ⟨h1, h2⟩ b m => clB_iff.mpr ⟨h1 b m, h2 b m⟩⟩
abbrev spLClosed (K : PySem.W.Frag) (CB : Addr) : Sp := spP (fun x : LcArgs => [(tLs K (tBd K CB)).is x.bs, (tLs K tSt).is x.ow, (tLs K tSt).is x.ex, (tLs K tSt).is x.ns]) tBl LcOk closedB
abbrev sLClosed : Stmt := topS 31
theorem scLClosed : FnScope ["bonds", "own", "exempt", "names", "bond"] ["bonds", "own", "exempt", "names"] (defScope sLClosed) := ⟨rfl, rfl, rfl, by decide +kernel, rfl, by decide +kernel, by decide +kernel⟩
theorem ok_lclosed {f CB : Addr} {fd : FuncData} {k : Nat} (F : Fun K "_law_is_closed" "_law_is_closed" sLClosed f fd) (BC : BondC K CB) (c_law_bound : Cal P w K mg base k "_law_bound" ["bonds", "name", "names"] (spLBound K CB)) : FnOk P w K mg base CX0 (k + 1) f fd ["bonds", "own", "exempt", "names"] (spLClosed K CB) := by
  refine ok_P F scLClosed (fun _ => rfl) fun cdv A outer s H0 S x Q E hr hp out => ⟨_, (pss_cons (ps_for PassesOwn.never rfl (pi_list (pv 0)) (pg_name (i := 4) scLClosed.nd rfl (Or.inl rfl)) (pss_cons (ps_if (PW.pt (pw_and (pt_cmpR op_in_seq (pe_fld (pv 4) rfl) (pv 1) (by rfl)) (pw_and1 (pt_cmpR op_notIn_seq (pe_fld (pv 4) rfl) (pv 3) (by rfl))))) (pss_one (ps_ret pe_bl)) pss_nil)
      (pss_one (ps_if (PW.pt (pw_and (pt_cmpR op_notIn_seq (pe_fld (pv 4) rfl) (pv 3) (by rfl)) (pw_and (pt_cmpR op_notIn_seq (pe_fld (pv 4) rfl) (pv 2) (by rfl)) (pw_and1 (pt_val (pe_cal c_law_bound hr (by rfl) (pa_cons (pv 0) (pa_cons (pe_fld (pv 4) rfl) (pa_cons (pv 3) pa_nil))))))))) (pss_one (ps_ret pe_bl)) pss_nil))))
      (pss_one (ps_ret pe_bl))), ?_⟩
  obtain ⟨bs, ow, ex, ns⟩ := x
  obtain ⟨nd, ok, l⟩ := hp
  refine go_seq (go_for (iv_list (ev_var rfl)) tgt_name (fun k (_ : Unit) => ([], [some ((tLs K (tBd K CB)).is bs), some ((tLs K tSt).is ow), some ((tLs K tSt).is ex), some ((tLs K tSt).is ns), none])) (fun k _ => (bs.take k).all (clB ow ex ns bs) = true) () rfl (fun σ H o => o.sb (by walk_at "sb")) (fun k _ b f hx hk => ?_) (fun _ hk σ H o => ?_))
  · have hb : b ∈ bs := List.mem_of_getElem? hx
    have no : clB ow ex ns bs b = false → closedB ⟨bs, ow, ex, ns⟩ = false := fun h => by
      unfold closedB
      rw [List.all_eq_false]
      exact ⟨b, hb, by rw [h]; decide⟩
    refine go_ifr (et_and (et_of (ev_inS (ev_fld 0 (ev_var rfl) BC.cl BC.n0) (ev_var rfl))) (fun qa => (et_of (ev_niS (ev_fld 0 (ev_var rfl) BC.cl BC.n0) (ev_var rfl))))) (fun h => go_end (y := false) ev_bl out (hp := by rw [no]; unfold clB; rw [h]; rfl)) (fun h1 => ?_)
    refine go_if (et_and (et_of (ev_niS (ev_fld 0 (ev_var rfl) BC.cl BC.n0) (ev_var rfl))) (fun qa => (et_and (et_of (ev_niS (ev_fld 0 (ev_var rfl) BC.cl BC.n0) (ev_var rfl))) (fun qb => (et_B (ev_call (z := (LbArgs.mk _ _ _)) (ea_cons (ev_var rfl) (ea_cons (ev_fld 0 (ev_var rfl) BC.cl BC.n0) (ea_cons (ev_var rfl) ea_nil))) ?_)))))) (fun h => go_end (y := false) ev_bl out (hp := by rw [no]; unfold clB; rw [h]; simp)) (fun h2 => go_next fun σ H o => ⟨(), ?_, o.sb (by walk_at "sb")⟩)
    · exact ⟨hb, nd, of_decide_eq_false (by simpa using qa), ok, l⟩
    · rw [take_snoc hx, List.all_append, hk]
      show (true && (clB ow ex ns bs b && true)) = true
      unfold clB
      rw [h1, h2]
      rfl
  · rw [List.take_length] at hk
    have hp : true = closedB ⟨bs, ow, ex, ns⟩ := hk.symm
    dsimp only
    exact go_at o (go_end (y := true) ev_bl out (hp := hp))
end
end Cs
set_option maxHeartbeats 4000000
namespace Cs
open PySem PySem.Spec PyProof.Rows L2
local macro_rules | `(tactic| walk_at "rd") => `(tactic| (first
  | (refine ⟨_, rfl, ?_⟩)
  | (refine ⟨_, _, rfl, rfl, ?_⟩)
  | (refine .inl ⟨_, rfl, ?_⟩)
  | (refine .inr ⟨_, rfl, ?_⟩)
  | (refine ⟨_, _, _, _, rfl, rfl, SqL.of upd_same, rfl, ?_⟩)
  | (refine ⟨_, _, _, _, rfl, rfl, upd_same, rfl, ?_⟩)
  | (refine ⟨_, ?xs, _, ?v, rfl, rfl, ?h, ?x, ?_⟩; (case h => first | exact SqL.of (by assumption) | exact SqT.of (by assumption) | assumption); (case x => first | rfl | exact atI_nat (j := 0) rfl | exact atI_nat (j := 1) rfl))))
local macro_rules | `(tactic| walk_at "isi") => `(tactic| (first
  | (refine ⟨_, _, _, _, _, rfl, .ty _, .base (.int _), kit_ty kit_it, ?_⟩)
  | (refine ⟨_, _, _, _, _, rfl, .ty _, .base (.int _), kit_ty kit_ib, ?_⟩)
  | (refine ⟨_, _, _, _, _, rfl, .ty _, .base (.int _), kit_ty kit_ii, ?_⟩)
  | (refine ⟨_, _, _, _, _, rfl, .ty _, .base (.bl _), kit_ty kit_bt, ?_⟩)
  | (refine ⟨_, _, _, _, _, rfl, .ty _, .base (.bl _), kit_ty kit_bb, ?_⟩)
  | (refine ⟨_, _, _, _, _, rfl, .ty _, .base (.bl _), kit_ty kit_bi, ?_⟩)))
local macro_rules | `(tactic| walk_at "ev") => `(tactic| (first
  | exact ev_var rfl
  | exact ev_int
  | exact ev_str
  | exact ev_bl
  | exact ev_non
  | (refine ev_add ?_ ?_ <;> walk_at "ev")
  | (refine ev_sub ?_ ?_ <;> walk_at "ev")
  | (refine ev_mul ?_ ?_ ?_ <;> (try walk_at "ev"))
  | (refine ev_neg ?_ <;> walk_at "ev")
  | (refine ev_num ?_ <;> walk_at "ev")
  | (refine ev_den ?_ <;> walk_at "ev")
  | (refine ev_cmp ?_ ?_ <;> walk_at "ev")
  | (refine ev_eqI ?_ ?_ <;> walk_at "ev")
  | (refine ev_eqS ?_ ?_ <;> walk_at "ev")
  | (refine ev_neI ?_ ?_ <;> walk_at "ev")
  | (refine ev_neS ?_ ?_ <;> walk_at "ev")
  | (refine ev_inS ?_ ?_ <;> walk_at "ev")
  | (refine ev_niS ?_ ?_ <;> walk_at "ev")
  | (refine ev_len ?_ <;> walk_at "ev")
  | (refine ev_list ?_ <;> walk_at "ev")
  | (refine ev_listRev ?_ <;> walk_at "ev")
  | (refine ev_int1 ?_ <;> walk_at "ev")))
local macro_rules | `(tactic| walk_at "ea") => `(tactic| (first
  | exact ea_nil
  | (refine ea_cons ?_ ?_ <;> (first | walk_at "ev" | walk_at "ea" | skip))))
local macro_rules | `(tactic| walk_at "sb") => `(tactic| (first | exact True.intro | (refine And.intro rfl ?_; walk_at "sb")))
section
variable {P : Program} {w : World} {K : PySem.W.Frag} {mg : Str → Option Value} {base : Heap}
def tAny : Ty Unit := ⟨fun _ _ _ => True, fun _ h => h⟩
abbrev bdA (K : PySem.W.Frag) (b : Bd) : List SF := [tSt.is b.name, tSt.is b.issuer, tInt.is b.units, (tFr K).is b.face, tAny.is (), tAny.is (), tAny.is (), tAny.is (), tAny.is (), tAny.is (), tAny.is (), (tLs K tAny).is [], tAny.is (), (tLs K tAny).is [], (tOpt (tFr K)).is b.cross, (tLs K tAny).is []]
abbrev spBInit (K : PySem.W.Frag) (CB : Addr) : Sp := spI CB (bdA K) (fun _ => True) (bdF K)
abbrev sBInit : Stmt := inClass (topS 19) 0
theorem scBInit : FnScope ["self", "name", "issuer", "units", "face", "first_day", "last_day", "months", "count", "adjust", "record", "rank", "lets", "coupon", "promises", "cross", "calls"] ["self", "name", "issuer", "units", "face", "first_day", "last_day", "months", "count", "adjust", "record", "rank", "lets", "coupon", "promises", "cross", "calls"] (defScope sBInit) := ⟨rfl, rfl, rfl, by decide +kernel, rfl, by decide +kernel, by decide +kernel⟩
theorem ok_binit {f CB : Addr} {fd : FuncData} {k : Nat} (F : Fun K "__init__" "Bond.__init__" sBInit f fd) (BC : BondC K CB) (z_list : mg "list" = none) : FnOk P w K mg base CX0 (k + 1) f fd ["self", "name", "issuer", "units", "face", "first_day", "last_day", "months", "count", "adjust", "record", "rank", "lets", "coupon", "promises", "cross", "calls"] (spBInit K CB) := by
  refine ok_I F scBInit (fun _ => rfl) fun cdv A outer s H0 S b a dx Q E hr hp am => ⟨_, (pss_cons (ps_fld (pv 0) (pv 1) rfl)
      (pss_cons (ps_fld (pv 0) (pv 2) rfl)
      (pss_cons (ps_fld (pv 0) (pv 3) rfl)
      (pss_cons (ps_fld (pv 0) (pv 4) rfl)
      (pss_cons (ps_fld (pv 0) (pv 5) rfl)
      (pss_cons (ps_fld (pv 0) (pv 6) rfl)
      (pss_cons (ps_fld (pv 0) (pv 7) rfl)
      (pss_cons (ps_fld (pv 0) (pv 8) rfl)
      (pss_cons (ps_fld (pv 0) (pv 9) rfl)
      (pss_cons (ps_fld (pv 0) (pv 10) rfl)
      (pss_cons (ps_fld (pv 0) (pv 11) rfl)
      (pss_cons (ps_fld (pv 0) (pe_callTy call_list_of (by rfl) z_list (by decide +kernel) (pa_cons (pv 12) pa_nil)) rfl)
      (pss_cons (ps_fld (pv 0) (pv 13) rfl)
      (pss_cons (ps_fld (pv 0) (pe_callTy call_list_of (by rfl) z_list (by decide +kernel) (pa_cons (pv 14) pa_nil)) rfl)
      (pss_cons (ps_fld (pv 0) (pv 15) rfl)
      (pss_one (ps_fld (pv 0) (pe_callTy call_list_of (by rfl) z_list (by decide +kernel) (pa_cons (pv 16) pa_nil)) rfl))))))))))))))))), fun nx out => ?_⟩
  refine go_fldS (s := 0) rfl rfl (ev_var rfl) BC.cl BC.n0 ?_
  refine go_fldS (s := 0) rfl rfl (ev_var rfl) BC.cl BC.n1 ?_
  refine go_fldS (s := 0) rfl rfl (ev_var rfl) BC.cl BC.n2 ?_
  refine go_fldS (s := 0) rfl rfl (ev_var rfl) BC.cl BC.n3 ?_
  refine go_fldS (s := 0) rfl rfl (ev_var rfl) BC.cl BC.n5 ?_
  refine go_fldS (s := 0) rfl rfl (ev_var rfl) BC.cl BC.n6 ?_
  refine go_fldS (s := 0) rfl rfl (ev_var rfl) BC.cl BC.n7 ?_
  refine go_fldS (s := 0) rfl rfl (ev_var rfl) BC.cl BC.n8 ?_
  refine go_fldS (s := 0) rfl rfl (ev_var rfl) BC.cl BC.n9 ?_
  refine go_fldS (s := 0) rfl rfl (ev_var rfl) BC.cl BC.n10 ?_
  refine go_fldS (s := 0) rfl rfl (ev_var rfl) BC.cl BC.n11 ?_
  refine go_fldS (s := 0) rfl rfl (ev_list (ev_var rfl)) BC.cl BC.n12 ?_
  refine go_fldS (s := 0) rfl rfl (ev_var rfl) BC.cl BC.n13 ?_
  refine go_fldS (s := 0) rfl rfl (ev_list (ev_var rfl)) BC.cl BC.n14 ?_
  refine go_fldS (s := 0) rfl rfl (ev_var rfl) BC.cl BC.n4 ?_
  refine go_fldS1 (s := 0) rfl rfl (ev_list (ev_var rfl)) BC.cl BC.n15 fun σ H o => out _ _ _ σ H o (fun p m => ?_)
  simp only [bdF, List.mem_cons, List.not_mem_nil, or_false] at m
  rcases m with rfl | rfl | rfl | rfl | rfl <;> simp
def bdPs : List Str := ["self", "name", "issuer", "units", "face", "first_day", "last_day", "months", "count", "adjust", "record", "rank", "lets", "coupon", "promises", "cross", "calls"]
def bdKs : List Str := ["units", "face", "first_day", "last_day", "months", "count", "adjust", "record", "rank", "lets", "coupon", "promises", "cross", "calls"]
/-- how a bond is made -/
structure MkBd (P : Program) (w : World) (K : PySem.W.Frag) (mg : Str → Option Value) (base : Heap) (k : Nat) (CB fI : Addr) (fdI : FuncData) (g : List Value → List Value → List Value) : Prop where
  mkc : Mk K CB fI
  ok : FnOk P w K mg base CX0 k fI fdI bdPs (spBInit K CB)
  m : mg "Bond" = some (.ref CB)
  kb : KBn K fdI bdPs 3 bdKs g (fun vs zs => vs ++ zs)
def nmAt (k : Nat) : Str := ⟨#[97 + k]⟩
structure FamOk (bs : List Bd) : Prop where
  l : bs.length ≤ 6
  ok : ∀ b ∈ bs, BdOk b
  nm : bs.map Bd.name = (List.range bs.length).map nmAt
theorem nmAt_inj {i j : Nat} (h : nmAt i = nmAt j) : i = j := by
  have h1 : (#[97 + i] : Array Nat) = #[97 + j] := congrArg Str.cps h
  have h2 := congrArg (fun a => a.toList.headD 0) h1
  have h3 : 97 + i = 97 + j := h2
  omega
theorem nodup_map_inj {α β : Type} {f : α → β} (hf : ∀ x y, f x = f y → x = y) : ∀ {l : List α}, l.Nodup → (l.map f).Nodup
  | [], _ => List.nodup_nil
  | x :: l, h => by
    rw [List.nodup_cons] at h
    rw [List.map_cons, List.nodup_cons]
    refine ⟨fun m => ?_, nodup_map_inj hf h.2⟩
    obtain ⟨y, my, e⟩ := List.mem_map.mp m
    exact h.1 (hf _ _ e ▸ my)
theorem FamOk.nd {bs : List Bd} (h : FamOk bs) : (bs.map Bd.name).Nodup := by
  rw [h.nm]
  exact nodup_map_inj (fun i j e => nmAt_inj e) List.nodup_range
abbrev spLFam (K : PySem.W.Frag) (CB : Addr) : Sp := spN (fun x : Addr × Addr × List Int => [cell x.1 (cDk K x.1 x.2.1 x.2.2)]) (fun x => [tRf.is x.1]) (tLs K (tBd K CB)) (fun _ => True) (fun _ bs => FamOk bs)
def frB (c : (Int × Rat × Unit)) : Int × Rat := (c.1, c.2.1)
abbrev sLFam : Stmt := topS 28
theorem scLFam : FnScope ["deck", "bonds", "k", "cross", "issuer", "face"] ["deck"] (defScope sLFam) := ⟨rfl, rfl, rfl, by decide +kernel, rfl, by decide +kernel, by decide +kernel⟩
theorem ok_lfam {f CB fI : Addr} {fd fdI : FuncData} {k : Nat} {g : List Value → List Value → List Value} (F : Fun K "_law_family" "_law_family" sLFam f fd) (MB : MkBd P w K mg base k CB fI fdI g) (c_law_draw : Cal P w K mg base (k + 1) "_law_draw" ["deck", "most"] (spDrawA K)) (c_law_ratio : Cal P w K mg base (k + 1) "_law_ratio" ["p", "q"] spRatio) (z_range : mg "range" = none) (z_int : mg "int" = none) : FnOk P w K mg base CX0 (k + 2) f fd ["deck"] (spLFam K CB) := by
  obtain ⟨mk_Bond, ok_Bond, m_Bond, kb_Bond⟩ := MB
  refine ok_N F scLFam (fun _ => rfl) fun cdv A outer s H0 S x Q E hr hp out => ⟨_, (pss_cons (ps_set (i := 1) scLFam.nd rfl (Or.inl rfl) (pe_lst pa_nil))
      (pss_cons (ps_for PassesOwn.never rfl (pi_range1 rfl z_range (pa_cons (pe_op op_add pe_int (pe_cal c_law_draw hr (by rfl) (pa_cons (pv 0) (pa_cons pe_int pa_nil)))) pa_nil)) (pg_name (i := 2) scLFam.nd rfl (Or.inl rfl)) (pss_cons (ps_set (i := 3) scLFam.nd rfl (Or.inl rfl) pe_non)
      (pss_cons (ps_if (pt_cmpR op_gt (pe_cal c_law_draw hr (by rfl) (pa_cons (pv 0) (pa_cons pe_int pa_nil))) pe_int (nomark _)) (pss_one (ps_set (i := 3) scLFam.nd rfl (Or.inl rfl) (pe_cal c_law_ratio hr (by rfl) (pa_cons (pe_cal c_law_draw hr (by rfl) (pa_cons (pv 0) (pa_cons pe_int pa_nil))) (pa_cons (pe_op op_add pe_int (pe_cal c_law_draw hr (by rfl) (pa_cons (pv 0) (pa_cons pe_int pa_nil)))) pa_nil))))) pss_nil)
      (pss_cons (ps_set (i := 4) scLFam.nd rfl (Or.inl rfl) (pe_ix ix_list (pe_lst (pa_cons pe_str (pa_cons pe_str pa_nil))) (pe_callTy call_int1 (by rfl) z_int (by decide +kernel) (pa_cons (pe_cmpR op_eq (pe_cal c_law_draw hr (by rfl) (pa_cons (pv 0) (pa_cons pe_int pa_nil))) pe_int (nomark _)) pa_nil)) (fun _ _ => rfl)))
      (pss_cons (ps_set (i := 5) scLFam.nd rfl (Or.inl rfl) (pe_cal c_law_ratio hr (by rfl) (pa_cons (pe_op op_add pe_int (pe_cal c_law_draw hr (by rfl) (pa_cons (pv 0) (pa_cons pe_int pa_nil)))) (pa_cons (pe_op op_add pe_int (pe_cal c_law_draw hr (by rfl) (pa_cons (pv 0) (pa_cons pe_int pa_nil)))) pa_nil))))
      (pss_one (ps_expr (pe_bm PySem.F.plainAttrs_list PySem.F.slot_list_append PySem.F.type_list_append mt_append (pv 1) (pa_cons (pe_makeK mk_Bond ok_Bond hr (by rfl) m_Bond kb_Bond pass0 (pa_cons (pe_ix ix_str pe_str (pv 2) (fun _ _ => rfl)) (pa_cons (pv 4) pa_nil)) (pk_cons (pe_op op_add pe_int (pe_cal c_law_draw hr (by rfl) (pa_cons (pv 0) (pa_cons pe_int pa_nil)))) (pk_cons (pv 5) (pk_cons pe_int (pk_cons pe_int (pk_cons pe_int (pk_cons pe_str (pk_cons pe_str (pk_cons pe_int (pk_cons pe_int (pk_cons (pe_lst pa_nil) (pk_cons (pe_tup (pa_cons pe_str (pa_cons (pe_tup (pa_cons pe_int (pa_cons pe_int pa_nil))) pa_nil))) (pk_cons (pe_lst pa_nil) (pk_cons (pv 3) (pk_cons (pe_lst pa_nil) pk_nil))))))))))))))) pa_nil)))))))))
      (pss_one (ps_ret (pv 1))))), ?_⟩
  obtain ⟨d, l, ns⟩ := x
  refine go_ms fun hm => ?_
  refine go_newN (t := tBd K CB) el_nil (k := fun p np => ?_)
  refine go_seq (go_forx (ivx_range1 (evx_add (Ev.xe ev_int) (evx_draw (K := K) rfl (List.mem_cons_of_mem _ (List.mem_cons_self ..)) ev_int (by decide) (lt8 (by decide)))) ?_) tgt_name (fun k (bs : List Bd) => ([cell p (cLs (tBd K CB) bs), cell d (cDk K d l ns)], [some (tRf.is d), some (tRf.is p), none, none, none, none])) (fun k bs => k = bs.length ∧ FamOk bs) [] ⟨rfl, by decide, (fun b m => nomatch m), rfl⟩ (fun σ H o => ?_) (fun xs k bs x f hX hx hk => ?_) (fun xs bs hX hk σ H o => ?_))
  · rintro n ⟨i, j, rfl, ⟨h1, h2⟩, rfl⟩
    omega
  · exact o.sb (by walk_at "sb")
  · obtain ⟨n, ⟨i, j, rfl, ⟨h1, h2⟩, rfl⟩, rfl⟩ := hX
    obtain ⟨rfl, hf⟩ := hk
    have hx : (((List.range (1 + j).toNat).map fun (i : Nat) => (i : Int))[bs.length]?) = some x := hx
    have hlt : bs.length < (1 + j).toNat := by
      have := (List.getElem?_eq_some_iff.mp hx).1
      simpa using this
    have hx : x = (bs.length : Int) := by
      rw [List.getElem?_map, List.getElem?_range hlt] at hx
      exact (Option.some.inj hx).symm
    subst hx
    have l6 : bs.length < 6 := by omega
    have d40 : ∀ q : Int, q ≠ 0 → q.natAbs < 100 → q.natAbs < 2 ^ 2400 := fun q _ h => Nat.lt_trans h (Nat.lt_of_lt_of_le (by decide : 100 < 2 ^ 7) (Nat.pow_le_pow_right (by decide) (by decide)))
    have d41 : ∀ q : Int, q.natAbs < 100 → q.natAbs < 2 ^ 2400 := fun q h => Nat.lt_trans h (Nat.lt_of_lt_of_le (by decide : 100 < 2 ^ 7) (Nat.pow_le_pow_right (by decide) (by decide)))
    have s10 : ∀ p q : Int, q ≠ 0 → p.natAbs < 100 → q.natAbs < 100 → Sz 10 (Rat.divInt p q) := fun p q h a b => sz_div h (Nat.lt_trans a (by decide)) (Nat.lt_trans b (by decide))
    refine go_set (t := tOpt (tFr K)) (x := none) (ev_to ev_non fun _ _ r => r) ?_
    refine go_ifj (fun cr : Option Rat => ⟨H0, _, p :: S, [cell p (cLs (tBd K CB) bs), cell d (cDk K d l ns)], [f], [some (tRf.is d), some (tRf.is p), some (tInt.is (bs.length : Int)), some ((tOpt (tFr K)).is cr), none, none]⟩) (fun cr => ∀ c, cr = some c → Sz 10 c) (etx_cmp (evx_draw (K := K) rfl (List.mem_cons_of_mem _ (List.mem_cons_self ..)) ev_int (by decide) (lt8 (by decide))) ev_int) (fun _ nx hnx => go_set1x (t := tOpt (tFr K)) (P := fun cr => ∀ c, cr = some c → Sz 10 c) (evx_to (evx_ratio (K := K) (evx_draw (K := K) rfl (List.mem_cons_of_mem _ (List.mem_cons_self ..)) ev_int (by decide) (lt8 (by decide))) (evx_add (Ev.xe ev_int) (evx_draw (K := K) rfl (List.mem_cons_of_mem _ (List.mem_cons_self ..)) ev_int (by decide) (lt8 (by decide)))) ?_) ?_) fun cr pc σ H o => hnx cr pc σ H o) (fun _ => ⟨none, (fun c h => by cases h), fun σ H o => o⟩) fun cr pc => ?_
    · rintro p q ⟨h1, h2⟩ ⟨i, j, rfl, ⟨h3, h4⟩, rfl⟩
      exact ⟨by omega, d41 _ (by omega), d41 _ (by omega)⟩
    · rintro r ⟨p, q, ⟨h1, h2⟩, ⟨i, j, rfl, ⟨h3, h4⟩, rfl⟩, rfl⟩
      refine ⟨some _, fun c e => Option.some.inj e ▸ s10 _ _ (by omega) (by omega) (by omega), fun H v h => ⟨h, ?_⟩⟩
      obtain ⟨a, rfl, _⟩ := h
      simp
    refine go_setx (P := fun _ => True) (evx_ixL (ev_lst (K := K) (el_cons ev_str (el_cons ev_str el_nil))) (evx_intB (evx_eqI (evx_draw (K := K) rfl (List.mem_cons_of_mem _ (List.mem_cons_self ..)) ev_int (by decide) (lt8 (by decide))) ev_int)) ?_) fun iss _ => ?_
    · rintro n ⟨b, ⟨i, ⟨h1, h2⟩, rfl⟩, rfl⟩
      by_cases q : i = 0
      · subst q; exact ⟨_, trivial, rfl⟩
      · rw [decide_eq_false q]; exact ⟨_, trivial, rfl⟩
    refine go_setx (evx_ratio (K := K) (evx_add (Ev.xe ev_int) (evx_draw (K := K) rfl (List.mem_cons_of_mem _ (List.mem_cons_self ..)) ev_int (by decide) (lt8 (by decide)))) (evx_add (Ev.xe ev_int) (evx_draw (K := K) rfl (List.mem_cons_of_mem _ (List.mem_cons_self ..)) ev_int (by decide) (lt8 (by decide)))) ?_) fun fc hfc => ?_
    · rintro p q ⟨i', j', rfl, ⟨h1, h2⟩, rfl⟩ ⟨i, j, rfl, ⟨h3, h4⟩, rfl⟩
      exact ⟨by omega, d41 _ (by omega), d41 _ (by omega)⟩
    have hf2 : 0 ≤ fc ∧ Sz 10 fc := by
      obtain ⟨p, q, ⟨i', j', rfl, ⟨h1, h2⟩, rfl⟩, ⟨i, j, rfl, ⟨h3, h4⟩, rfl⟩, rfl⟩ := hfc
      refine ⟨?_, s10 _ _ (by omega) (by omega) (by omega)⟩
      exact Rat.divInt_nonneg (by omega) (by omega)
    refine go_app1x rfl (List.Perm.refl _) (evx_makeK (fun (_ : Unit) (d : Int × Unit) => (⟨nmAt bs.length, iss, d.1, fc, cr⟩ : Bd)) (Ea.xe (ea_cons (ev_ixS (c := 97 + bs.length) ev_str (ev_var rfl) ?_ ?_) (ea_cons (ev_var rfl) ea_nil))) (eax_consx (evx_add (Ev.xe ev_int) (evx_draw (K := K) rfl (List.mem_cons_of_mem _ (List.mem_cons_self ..)) ev_int (by decide) (lt8 (by decide)))) (Ea.xe (ea_cons (ev_var rfl) (ea_cons (ev_to (u := tAny) (y := ()) ev_int fun _ _ _ => trivial) (ea_cons (ev_to (u := tAny) (y := ()) ev_int fun _ _ _ => trivial) (ea_cons (ev_to (u := tAny) (y := ()) ev_int fun _ _ _ => trivial) (ea_cons (ev_to (u := tAny) (y := ()) ev_str fun _ _ _ => trivial) (ea_cons (ev_to (u := tAny) (y := ()) ev_str fun _ _ _ => trivial) (ea_cons (ev_to (u := tAny) (y := ()) ev_int fun _ _ _ => trivial) (ea_cons (ev_to (u := tAny) (y := ()) ev_int fun _ _ _ => trivial) (ea_cons (ev_nil (K := K) (t := tAny)) (ea_cons (ev_to (u := tAny) (y := ()) (ev_tup (K := K) (α := Unit) (x := ()) (fs' := fun _ => _) (ea_cons ev_str (ea_cons (ev_fracI (K := K) ev_int) ea_nil)) rfl (by show 2 ≤ sizeLine; decide)) fun _ _ _ => trivial) (ea_cons (ev_nil (K := K) (t := tAny)) (ea_cons (ev_var rfl) (ea_cons (ev_nil (K := K) (t := tAny)) ea_nil))))))))))))))) ?_ ?_ ?_ ?_) ?_ fun b hb σ H o => ?_
    · show 6 ≤ sizeLine
      decide
    · refine atI_nat (j := bs.length) ?_
      have key : ∀ n, n < 6 → ("abcdef" : Str).cps.toList[n]? = some (97 + n) := by decide
      exact key _ l6
    · intro _; rfl
    · intro _; rfl
    · intro H v c e us ws f1 f2
      exact ⟨us ++ ws, rfl, Fits.append f1 f2⟩
    · intro _ _ _ _; trivial
    · rw [sizeLine_eq]; omega
    · obtain ⟨_, ⟨u, _⟩, _, ⟨⟨i, j, rfl, ⟨h3, h4⟩, rfl⟩, _⟩, rfl⟩ := hb
      refine ⟨bs ++ [_], ⟨by rw [List.length_append]; rfl, ?_⟩, o.sb (by walk_at "sb")⟩
      refine ⟨by rw [List.length_append, List.length_singleton]; omega, fun b m => ?_, ?_⟩
      · rcases List.mem_append.mp m with m | m
        · exact hf.ok b m
        · rw [List.mem_singleton.mp m]
          exact ⟨by show (0 : Int) ≤ 1 + j; omega, by show 1 + j < 1000; omega, hf2.1, hf2.2, pc⟩
      · rw [List.map_append, hf.nm, List.length_append, List.length_singleton, List.range_succ, List.map_append]
        rfl
  · obtain ⟨n, ⟨i, j, rfl, ⟨h1, h2⟩, rfl⟩, rfl⟩ := hX
    obtain ⟨_, hf⟩ := hk
    dsimp only
    exact go_at o (go_frz (K := K) (i := 1) (t := tBd K CB) (xs := bs) rfl (fun a m => hm a m) np (fun a m => hm a m) (go_end (ev_var (n := 1) rfl) out (hp := hf) (hC := fun c z => z)))
end
end Cs
set_option maxHeartbeats 4000000
namespace Cs
open PySem PySem.Spec PyProof.Rows L2
local macro_rules | `(tactic| walk_at "rd") => `(tactic| (first
  | (refine ⟨_, rfl, ?_⟩)
  | (refine ⟨_, _, rfl, rfl, ?_⟩)
  | (refine .inl ⟨_, rfl, ?_⟩)
  | (refine .inr ⟨_, rfl, ?_⟩)
  | (refine ⟨_, _, _, _, rfl, rfl, SqL.of upd_same, rfl, ?_⟩)
  | (refine ⟨_, _, _, _, rfl, rfl, upd_same, rfl, ?_⟩)
  | (refine ⟨_, ?xs, _, ?v, rfl, rfl, ?h, ?x, ?_⟩; (case h => first | exact SqL.of (by assumption) | exact SqT.of (by assumption) | assumption); (case x => first | rfl | exact atI_nat (j := 0) rfl | exact atI_nat (j := 1) rfl))))
local macro_rules | `(tactic| walk_at "isi") => `(tactic| (first
  | (refine ⟨_, _, _, _, _, rfl, .ty _, .base (.int _), kit_ty kit_it, ?_⟩)
  | (refine ⟨_, _, _, _, _, rfl, .ty _, .base (.int _), kit_ty kit_ib, ?_⟩)
  | (refine ⟨_, _, _, _, _, rfl, .ty _, .base (.int _), kit_ty kit_ii, ?_⟩)
  | (refine ⟨_, _, _, _, _, rfl, .ty _, .base (.bl _), kit_ty kit_bt, ?_⟩)
  | (refine ⟨_, _, _, _, _, rfl, .ty _, .base (.bl _), kit_ty kit_bb, ?_⟩)
  | (refine ⟨_, _, _, _, _, rfl, .ty _, .base (.bl _), kit_ty kit_bi, ?_⟩)))
local macro_rules | `(tactic| walk_at "ev") => `(tactic| (first
  | exact ev_var rfl
  | exact ev_int
  | exact ev_str
  | exact ev_bl
  | exact ev_non
  | (refine ev_add ?_ ?_ <;> walk_at "ev")
  | (refine ev_sub ?_ ?_ <;> walk_at "ev")
  | (refine ev_mul ?_ ?_ ?_ <;> (try walk_at "ev"))
  | (refine ev_neg ?_ <;> walk_at "ev")
  | (refine ev_num ?_ <;> walk_at "ev")
  | (refine ev_den ?_ <;> walk_at "ev")
  | (refine ev_cmp ?_ ?_ <;> walk_at "ev")
  | (refine ev_eqI ?_ ?_ <;> walk_at "ev")
  | (refine ev_eqS ?_ ?_ <;> walk_at "ev")
  | (refine ev_neI ?_ ?_ <;> walk_at "ev")
  | (refine ev_neS ?_ ?_ <;> walk_at "ev")
  | (refine ev_inS ?_ ?_ <;> walk_at "ev")
  | (refine ev_niS ?_ ?_ <;> walk_at "ev")
  | (refine ev_len ?_ <;> walk_at "ev")
  | (refine ev_list ?_ <;> walk_at "ev")
  | (refine ev_listRev ?_ <;> walk_at "ev")
  | (refine ev_int1 ?_ <;> walk_at "ev")))
local macro_rules | `(tactic| walk_at "ea") => `(tactic| (first
  | exact ea_nil
  | (refine ea_cons ?_ ?_ <;> (first | walk_at "ev" | walk_at "ea" | skip))))
local macro_rules | `(tactic| walk_at "sb") => `(tactic| (first | exact True.intro | (refine And.intro rfl ?_; walk_at "sb")))
section
variable {P : Program} {w : World} {K : PySem.W.Frag} {mg : Str → Option Value} {base : Heap}
theorem names_ok {bs : List Bd} (h : FamOk bs) : ∀ z ∈ bs.map Bd.name, PyData.strOk z = true := by
  rw [h.nm]
  intro z m
  obtain ⟨k, mk, rfl⟩ := List.mem_map.mp m
  have hk : k < 6 := Nat.lt_of_lt_of_le (List.mem_range.mp mk) h.l
  show (#[97 + k] : Array Nat).all (· < 0x110000) = true
  simp
  omega
theorem inN_names (ks : List Str) (bs : List Bd) : (inN ks bs).map Bd.name = (bs.map Bd.name).filter fun z => decide (z ∈ ks) := by
  unfold inN
  rw [List.filter_map]
  rfl
theorem mem_told {bs : List Bd} {ks : List Str} {z : Str} : z ∈ (inN ks bs).map Bd.name ↔ z ∈ bs.map Bd.name ∧ z ∈ ks := by
  rw [inN_names, List.mem_filter, decide_eq_true_eq]
theorem inN_told {bs : List Bd} {ks : List Str} : inN ((inN ks bs).map Bd.name) bs = inN ks bs := by
  unfold inN
  refine List.filter_congr fun b m => ?_
  rw [Bool.eq_iff_iff, decide_eq_true_eq, decide_eq_true_eq]
  rw [show b.name ∈ (List.filter (fun b => decide (b.name ∈ ks)) bs).map Bd.name ↔ b.name ∈ bs.map Bd.name ∧ b.name ∈ ks from mem_told]
  exact ⟨fun h => h.2, fun h => ⟨List.mem_map.mpr ⟨b, m, rfl⟩, h⟩⟩
theorem pw6 (n : Nat) (h : n ≤ 6) : -(2 ^ 62) ≤ (1 : Int) * 2 ^ ((n : Int).toNat) ∧ (1 : Int) * 2 ^ ((n : Int).toNat) < 2 ^ 62 := by
  have key : ∀ n : Nat, n < 7 → -(2 ^ 62) ≤ (1 : Int) * 2 ^ ((n : Int).toNat) ∧ (1 : Int) * 2 ^ ((n : Int).toNat) < 2 ^ 62 := by decide
  exact key n (by omega)
theorem pw1 (n : Nat) (h : n ≤ 6) : (1 : Int) ≤ 1 * 2 ^ ((n : Int).toNat) := by
  have key : ∀ n : Nat, n < 7 → (1 : Int) ≤ 1 * 2 ^ ((n : Int).toNat) := by decide
  exact key n (by omega)
abbrev sLaw : Stmt := topS 32
theorem scLaw : FnScope ["script", "deck", "bonds", "names", "own", "exempt", "told", "number", "chosen", "other", "more", "wider", "bond", "name", "k"] ["script"] (defScope sLaw) := ⟨rfl, rfl, rfl, by decide +kernel, rfl, by decide +kernel, by decide +kernel⟩
theorem ok_law {f CB zT : Addr} {fd : FuncData} {k : Nat} (F : Fun K "law" "law" sLaw f fd) (BC : BondC K CB) (c_law_deck : Cal P w K mg base k "_law_deck" ["script"] (spDeckN K)) (c_law_draw : Cal P w K mg base k "_law_draw" ["deck", "most"] (spDrawA K)) (c_law_family : Cal P w K mg base k "_law_family" ["deck"] (spLFam K CB))
    (c_defaults : Cal P w K mg base k "defaults" ["bonds", "own", "exempt"] (spDefaults K CB)) (c_defaults1 : CalD P w K mg base k "defaults" ["bonds", "own", "exempt"] [.ref zT] (spDefaults K CB)) (c_law_is_closed : Cal P w K mg base k "_law_is_closed" ["bonds", "own", "exempt", "names"] (spLClosed K CB))
    (z_list : mg "list" = none) (z_isinstance : mg "isinstance" = none) (z_reversed : mg "reversed" = none) (z_range : mg "range" = none) (z_len : mg "len" = none) (z_int : mg "int" = none) (kL : PySem.W.kitOne K (.type "list") (.type "list") = some true) (hT : ∀ H, Fits H [(tLT K tSt).is []] [.ref zT]) : FnOk P w K mg base CX0 (k + 1) f fd ["script"] (spLawT K) := by
  refine ok_P F scLaw (fun _ => rfl) fun cdv A outer s H0 S ns Q E hr hp out => ⟨_, (pss_cons (ps_set (i := 1) scLaw.nd rfl (Or.inr rfl) (pe_cal c_law_deck hr (by rfl) (pa_cons (pv 0) pa_nil)))
      (pss_cons (ps_set (i := 2) scLaw.nd rfl (Or.inl rfl) (pe_cal c_law_family hr (by rfl) (pa_cons (pv 1) pa_nil)))
      (pss_cons (ps_set (i := 3) scLaw.nd rfl (Or.inr rfl) (pe_lc (own := [("bond", 12)]) (g := gName 12) (tt := tYes) rfl scLaw.nd (pi_list (pv 2)) (blkOk_by (own := [("bond", 12)]) (N := ["script", "deck", "bonds", "names", "own", "exempt", "told", "number", "chosen", "other", "more", "wider", "bond", "name", "k"]) (sc := defScope sLaw) (by decide +kernel)) (fun _ _ _ _ _ => (pg_name (i := 12) scLaw.nd rfl (Or.inl rfl))) (fun _ _ _ _ _ => pts_nil) (fun _ _ _ _ _ => (pe_fldK (K := K) rfl (pv 12) rfl))))
      (pss_cons (ps_set (i := 4) scLaw.nd rfl (Or.inr rfl) (pe_lc (own := [("name", 13)]) (g := gName 13)  rfl scLaw.nd (pi_list (pv 3)) (blkOk_by (own := [("name", 13)]) (N := ["script", "deck", "bonds", "names", "own", "exempt", "told", "number", "chosen", "other", "more", "wider", "bond", "name", "k"]) (sc := defScope sLaw) (by decide +kernel)) (fun _ _ _ _ _ => (pg_name (i := 13) scLaw.nd rfl (Or.inl rfl))) (fun _ _ _ _ _ => (pts_one (pt_cmpR op_eq (pe_cal c_law_draw hr (by rfl) (pa_cons (pv 1) (pa_cons pe_int pa_nil))) pe_int (nomark _)))) (fun _ _ _ _ _ => (pv 13))))
      (pss_cons (ps_set (i := 5) scLaw.nd rfl (Or.inr rfl) (pe_lc (own := [("name", 13)]) (g := gName 13)  rfl scLaw.nd (pi_list (pv 3)) (blkOk_by (own := [("name", 13)]) (N := ["script", "deck", "bonds", "names", "own", "exempt", "told", "number", "chosen", "other", "more", "wider", "bond", "name", "k"]) (sc := defScope sLaw) (by decide +kernel)) (fun _ _ _ _ _ => (pg_name (i := 13) scLaw.nd rfl (Or.inl rfl))) (fun _ _ _ _ _ => (pts_one (PW.pt (pw_and (pt_cmpR (op_niK (K := K) rfl) (pv 13) (pv 4) (by rfl)) (pw_and1 (pt_cmpR op_eq (pe_cal c_law_draw hr (by rfl) (pa_cons (pv 1) (pa_cons pe_int pa_nil))) pe_int (nomark _))))))) (fun _ _ _ _ _ => (pv 13))))
      (pss_cons (ps_set (i := 6) scLaw.nd rfl (Or.inr rfl) (pe_cal c_defaults hr (by rfl) (pa_cons (pe_callTy call_list_of (by rfl) z_list (by decide +kernel) (pa_cons (pv 2) pa_nil)) (pa_cons (pe_callTy call_list_of (by rfl) z_list (by decide +kernel) (pa_cons (pv 4) pa_nil)) (pa_cons (pe_callTy call_list_of (by rfl) z_list (by decide +kernel) (pa_cons (pv 5) pa_nil)) pa_nil)))))
      (pss_cons (ps_if (PW.pt (pw_or (pt_not (pt_val (pe_callB call_isi (by rfl) z_isinstance (by decide +kernel) (pa_cons (pv 6) (pa_cons (pe_bltn (v := .ty "list") (by rfl) z_list (by decide +kernel) rfl) pa_nil))))) (pw_or1 (pt_cmpR (op_neD hr.units) (pv 6) (pe_lc (own := [("name", 13)]) (g := gName 13)  rfl scLaw.nd (pi_list (pv 3)) (blkOk_by (own := [("name", 13)]) (N := ["script", "deck", "bonds", "names", "own", "exempt", "told", "number", "chosen", "other", "more", "wider", "bond", "name", "k"]) (sc := defScope sLaw) (by decide +kernel)) (fun _ _ _ _ _ => (pg_name (i := 13) scLaw.nd rfl (Or.inl rfl))) (fun _ _ _ _ _ => (pts_one (pt_cmpR (op_inK (K := K) rfl) (pv 13) (pv 6) (by rfl)))) (fun _ _ _ _ _ => (pv 13))) (nomark _))))) (pss_one (ps_ret pe_bl)) pss_nil)
      (pss_cons (ps_if (pt_not (pt_val (pe_cal c_law_is_closed hr (by rfl) (pa_cons (pv 2) (pa_cons (pv 4) (pa_cons (pv 5) (pa_cons (pv 6) pa_nil))))))) (pss_one (ps_ret pe_bl)) pss_nil)
      (pss_cons (ps_for PassesOwn.never rfl (pi_range1 rfl z_range (pa_cons (pe_op op_shl pe_int (pe_callB call_len_seq (by rfl) z_len PySem.boot_len (pa_cons (pv 3) pa_nil))) pa_nil)) (pg_name (i := 7) scLaw.nd rfl (Or.inr rfl)) (pss_cons (ps_set (i := 8) scLaw.nd rfl (Or.inr rfl) (pe_lc (own := [("k", 14)]) (g := gName 14)  rfl scLaw.nd (pi_range1 (by rfl) z_range (pa_cons (pe_callB call_len_seq (by rfl) z_len PySem.boot_len (pa_cons (pv 3) pa_nil)) pa_nil)) (blkOk_by (own := [("k", 14)]) (N := ["script", "deck", "bonds", "names", "own", "exempt", "told", "number", "chosen", "other", "more", "wider", "bond", "name", "k"]) (sc := defScope sLaw) (by decide +kernel)) (fun _ _ _ _ _ => (pg_name (i := 14) scLaw.nd rfl (Or.inl rfl))) (fun _ _ _ _ _ => (pts_one (pt_cmpR op_eq (pe_op op_mod (pe_callTy call_int1 (by rfl) z_int (by decide +kernel) (pa_cons (pe_op op_fdivA (pv 7) (pe_op op_shl pe_int (pv 14))) pa_nil)) pe_int) pe_int (nomark _)))) (fun _ _ _ _ _ => (pe_ix (ix_lstK (K := K) rfl) (pv 3) (pv 14) (fun _ _ => rfl)))))
      (pss_one (ps_if (pt_val (pe_cal c_law_is_closed hr (by rfl) (pa_cons (pv 2) (pa_cons (pv 4) (pa_cons (pv 5) (pa_cons (pv 8) pa_nil)))))) (pss_one (ps_if (pt_cmpR (op_neD hr.units) (pe_lc (own := [("name", 13)]) (g := gName 13)  rfl scLaw.nd (pi_list (pv 6)) (blkOk_by (own := [("name", 13)]) (N := ["script", "deck", "bonds", "names", "own", "exempt", "told", "number", "chosen", "other", "more", "wider", "bond", "name", "k"]) (sc := defScope sLaw) (by decide +kernel)) (fun _ _ _ _ _ => (pg_name (i := 13) scLaw.nd rfl (Or.inl rfl))) (fun _ _ _ _ _ => (pts_one (pt_cmpR (op_niK (K := K) rfl) (pv 13) (pv 8) (by rfl)))) (fun _ _ _ _ _ => (pv 13))) (pe_lst pa_nil) (nomark _)) (pss_one (ps_ret pe_bl)) pss_nil)) pss_nil))))
      (pss_cons (ps_set (i := 9) scLaw.nd rfl (Or.inl rfl) (pe_cal c_defaults hr (by rfl) (pa_cons (pe_listRev rfl (by rfl) z_list (by rfl) z_reversed (pv 2)) (pa_cons (pe_listRev rfl (by rfl) z_list (by rfl) z_reversed (pv 4)) (pa_cons (pe_callTy call_list_of (by rfl) z_list (by decide +kernel) (pa_cons (pv 5) pa_nil)) pa_nil)))))
      (pss_cons (ps_if (pt_cmpR (op_neD hr.units) (pv 9) (pe_lc (own := [("name", 13)]) (g := gName 13)  rfl scLaw.nd (RT.pi_revA (by rfl) z_reversed (pv 3)) (blkOk_by (own := [("name", 13)]) (N := ["script", "deck", "bonds", "names", "own", "exempt", "told", "number", "chosen", "other", "more", "wider", "bond", "name", "k"]) (sc := defScope sLaw) (by decide +kernel)) (fun _ _ _ _ _ => (pg_name (i := 13) scLaw.nd rfl (Or.inl rfl))) (fun _ _ _ _ _ => (pts_one (pt_cmpR (op_inK (K := K) rfl) (pv 13) (pv 6) (by rfl)))) (fun _ _ _ _ _ => (pv 13))) (nomark _)) (pss_one (ps_ret pe_bl)) pss_nil)
      (pss_cons (ps_if (PW.pt (pw_and (pt_cmpR (op_eqD hr.units) (pv 5) (pe_lst pa_nil) (nomark _)) (pw_and1 (pt_cmpR (op_neD hr.units) (pe_calD c_defaults1 hr (by rfl) (pa_cons (pe_callTy call_list_of (by rfl) z_list (by decide +kernel) (pa_cons (pv 2) pa_nil)) (pa_cons (pe_callTy call_list_of (by rfl) z_list (by decide +kernel) (pa_cons (pv 4) pa_nil)) pa_nil))) (pv 6) (nomark _))))) (pss_one (ps_ret pe_bl)) pss_nil)
      (pss_cons (ps_set (i := 10) scLaw.nd rfl (Or.inl rfl) (pe_op op_cat (pv 4) (pe_lc (own := [("name", 13)]) (g := gName 13)  rfl scLaw.nd (pi_list (pv 3)) (blkOk_by (own := [("name", 13)]) (N := ["script", "deck", "bonds", "names", "own", "exempt", "told", "number", "chosen", "other", "more", "wider", "bond", "name", "k"]) (sc := defScope sLaw) (by decide +kernel)) (fun _ _ _ _ _ => (pg_name (i := 13) scLaw.nd rfl (Or.inl rfl))) (fun _ _ _ _ _ => (pts_one (PW.pt (pw_and (pt_cmpR (op_niK (K := K) rfl) (pv 13) (pv 4) (by rfl)) (pw_and (pt_cmpR (op_niK (K := K) rfl) (pv 13) (pv 5) (by rfl)) (pw_and1 (pt_cmpR op_eq (pe_cal c_law_draw hr (by rfl) (pa_cons (pv 1) (pa_cons pe_int pa_nil))) pe_int (nomark _)))))))) (fun _ _ _ _ _ => (pv 13)))))
      (pss_cons (ps_set (i := 11) scLaw.nd rfl (Or.inr rfl) (pe_cal c_defaults hr (by rfl) (pa_cons (pe_callTy call_list_of (by rfl) z_list (by decide +kernel) (pa_cons (pv 2) pa_nil)) (pa_cons (pv 10) (pa_cons (pe_callTy call_list_of (by rfl) z_list (by decide +kernel) (pa_cons (pv 5) pa_nil)) pa_nil)))))
      (pss_one (ps_ret (pe_cmpR (op_eqD hr.units) (pe_lc (own := [("name", 13)]) (g := gName 13)  rfl scLaw.nd (pi_list (pv 6)) (blkOk_by (own := [("name", 13)]) (N := ["script", "deck", "bonds", "names", "own", "exempt", "told", "number", "chosen", "other", "more", "wider", "bond", "name", "k"]) (sc := defScope sLaw) (by decide +kernel)) (fun _ _ _ _ _ => (pg_name (i := 13) scLaw.nd rfl (Or.inl rfl))) (fun _ _ _ _ _ => (pts_one (pt_cmpR (op_niK (K := K) rfl) (pv 13) (pv 11) (by rfl)))) (fun _ _ _ _ _ => (pv 13))) (pe_lst pa_nil) (nomark _)))))))))))))))))), ?_⟩
  refine go_deck rfl fun d l => ?_
  refine go_setx (evx_call (z := (d, l, ns)) (ea_cons (ev_var rfl) ea_nil) trivial) fun bs hf => ?_
  have hf : FamOk bs := hf
  have nd := hf.nd
  have l6 : bs.length ≤ 6 := hf.l
  have sz : ∀ n, n ≤ 10000 → n < sizeLine := fun n h => by rw [sizeLine_eq]; omega
  have sl : ∀ n, n ≤ 10000 → n ≤ sizeLine := fun n h => by rw [sizeLine_eq]; omega
  refine go_set (x := bs.map Bd.name) (ev_lcm (K := K) (iv_list (ev_var rfl)) tgt_name (by simp) ?_ (fun _ _ _ x _ xm => (ev_fld 0 (ev_var rfl) BC.cl BC.n0))) ?_
  · exact sz _ (by omega)
  have ln : (bs.map Bd.name).length ≤ 6 := by rw [List.length_map]; exact l6
  have nok := names_ok hf
  refine go_setx (evx_lc (K := K) (iv_list (ev_var rfl)) tgt_name (by simp) ?_ (fun _ _ _ x _ xm => (etx_eqI (evx_draw (K := K) rfl (List.mem_cons_of_mem _ (List.mem_cons_self ..)) ev_int (by decide) (lt8 (by decide))) ev_int)) (fun _ _ _ x _ xm px => (Ev.xe (ev_var rfl)))) fun ow how => ?_
  · exact sz _ (by omega)
  have sow : ow.Sublist (bs.map Bd.name) := how.sub
  refine go_setx (evx_lc (K := K) (iv_list (ev_var rfl)) tgt_name (by simp) ?_ (fun _ _ _ x _ xm => (etx_and (Et.toX (et_of (ev_niS (ev_var rfl) (ev_var rfl))) rfl) (etx_eqI (evx_draw (K := K) rfl (List.mem_cons_of_mem _ (List.mem_cons_self ..)) ev_int (by decide) (lt8 (by decide))) ev_int))) (fun _ _ _ x _ xm px => (Ev.xe (ev_var rfl)))) fun ex hex => ?_
  · exact sz _ (by omega)
  have sex : ex.Sublist (bs.map Bd.name) := hex.sub
  have low : ow.length ≤ 6 := Nat.le_trans sow.length_le ln
  have lex : ex.length ≤ 6 := Nat.le_trans sex.length_le ln
  have dok : DfOk ⟨bs, ow, ex⟩ := ⟨hf.ok, by show bs.length ≤ 20; omega, by show ow.length ≤ 100; omega, by show ex.length ≤ 100; omega, fun z m => sow.subset m, fun z m => sex.subset m⟩
  refine go_setx (evx_call (z := (DfArgs.mk _ _ _)) (ea_cons (ev_list (ev_var rfl)) (ea_cons (ev_list (ev_var rfl)) (ea_cons (ev_LT (ev_list (ev_var rfl))) ea_nil))) ?_) fun told ht => ?_
  · exact dok
  obtain ⟨ks, hks, rfl⟩ := ht
  have lt : ((inN ks bs).map Bd.name).length ≤ 6 := by rw [List.length_map]; exact Nat.le_trans (List.length_filter_le ..) l6
  have tok : ∀ z ∈ (inN ks bs).map Bd.name, PyData.strOk z = true := fun z m => nok z (mem_told.mp m).1
  have fok : ∀ (p : Str → Bool) (xs : List Str), (∀ z ∈ xs, PyData.strOk z = true) → ∀ z ∈ (xs.filter p).map (fun z => z), ((eqSt (K := K)).d z).canLay0 = true := fun p xs h z m => by
    rw [List.map_id'] at m
    exact lay_st (h z (List.mem_filter.mp m).1)
  have e0 : ((bs.map Bd.name).filter fun z => decide (z ∈ (inN ks bs).map Bd.name)).map (fun z => z) = (inN ks bs).map Bd.name := by
    rw [List.map_id', inN_names]
    refine List.filter_congr fun z m => ?_
    rw [Bool.eq_iff_iff, decide_eq_true_eq, decide_eq_true_eq, List.mem_filter, decide_eq_true_eq]
    exact ⟨fun h => h.2, fun h => ⟨m, h⟩⟩
  refine go_ifr (et_or (et_not (et_B (ev_isL (ev_var rfl) rfl kL))) (fun qa => (et_of (ev_neD (eqLs eqSt) (ev_var rfl) (ev_lcf (K := K) (iv_list (ev_var rfl)) tgt_name (by simp) ?_ (fun _ _ _ x _ xm => (et_of (ev_inS (ev_var rfl) (ev_var rfl)))) (fun _ _ _ x _ xm px => (ev_var rfl))) ?_ ?_ (by simp [eqLs, eqSt, eqFr, eqInt]))))) (fun h => ?_) (fun _ => ?_)
  · exact sz _ (by omega)
  · exact lay_ls _ fun z m => lay_st (tok z m)
  · exact lay_ls _ (fok _ _ nok)
  · rw [e0] at h
    simp at h
  have clT : closedB ⟨bs, ow, ex, (inN ks bs).map Bd.name⟩ = true := closedB_iff.mpr ⟨fun b m q => mem_told.mpr ⟨List.mem_map.mpr ⟨b, m, rfl⟩, hks.own _ q⟩, fun b m h1 h2 => by
    show boundB b (inN ((inN ks bs).map Bd.name) bs) = false
    rw [inN_told]
    exact hks.cl b m (fun q => h1 (mem_told.mpr ⟨List.mem_map.mpr ⟨b, m, rfl⟩, q⟩)) h2⟩
  have lok : ∀ ns, LcOk ⟨bs, ow, ex, ns⟩ := fun ns => ⟨nd, hf.ok, by show bs.length ≤ 20; omega⟩
  refine go_ifr (et_not (et_B (ev_call (z := (LcArgs.mk _ _ _ _)) (ea_cons (ev_var rfl) (ea_cons (ev_var rfl) (ea_cons (ev_var rfl) (ea_cons (ev_var rfl) ea_nil)))) ?_))) (fun h => ?_) (fun _ => ?_)
  · exact lok _
  · rw [clT] at h
    cases h
  refine go_seq (go_for (iv_range1 (ev_shl ev_int (ev_len (ev_var rfl)) ?_) ?_ ?_) tgt_name (fun k (_ : Unit) => ([cell d (cDk K d l ns)], [none, some (tRf.is d), some ((tLs K (tBd K CB)).is bs), some ((tLs K tSt).is (bs.map Bd.name)), some ((tLs K tSt).is ow), some ((tLs K tSt).is ex), some ((tLs K tSt).is ((inN ks bs).map Bd.name)), none, none, none, none, none, none, none, none])) (fun _ _ => True) () trivial (fun σ H o => o.sb (by walk_at "sb")) (fun k _ num f hx _ => ?_) (fun _ _ σ H o => ?_))
  · exact ⟨by omega, by omega, by decide⟩
  · exact (pw6 _ ln).1
  · exact (pw6 _ ln).2
  · have hnum : 0 ≤ num ∧ num < 2 ^ 62 := by
      have hm := List.mem_of_getElem? hx
      obtain ⟨i, mi, rfl⟩ := List.mem_map.mp hm
      have := List.mem_range.mp mi
      have := (pw6 _ ln).2
      exact ⟨by omega, by omega⟩
    have hxx : ∀ x : Int, x ∈ ((List.range ((bs.map Bd.name).length : Int).toNat).map fun (i : Nat) => (i : Int)) → ∃ i : Nat, x = i ∧ i < bs.length := fun x m => by
      obtain ⟨i, mi, rfl⟩ := List.mem_map.mp m
      have := List.mem_range.mp mi
      rw [List.length_map] at this
      exact ⟨i, rfl, by omega⟩
    refine go_set (x := (List.filter _ _).map fun x : Int => nmAt x.toNat) (ev_lcf (K := K) (iv_range1 (ev_len (ev_var rfl)) ?_ ?_) tgt_name (by simp) ?_ (fun _ _ _ x _ xm => (et_of (ev_eqI (ev_mod (ev_int1 (ev_fdiv (ev_var rfl) (ev_shl ev_int (ev_var rfl) ?_) ?_)) ev_int ?_) ev_int))) (fun _ _ _ x _ xm px => (ev_ixL (ev_var rfl) (ev_var rfl) ?_))) ?_
    · omega
    · omega
    · rw [List.length_map, List.length_range]
      exact sz _ (by omega)
    · obtain ⟨i, rfl, hi⟩ := hxx x xm
      exact ⟨by omega, by omega, by decide⟩
    · obtain ⟨i, rfl, hi⟩ := hxx x xm
      have h6 := pw6 i (by omega)
      have h7 : (1 : Int) ≤ 1 * 2 ^ ((i : Int).toNat) := pw1 i (by omega)
      exact ⟨by omega, Nat.lt_of_lt_of_le (show (1 * 2 ^ ((i : Int).toNat) : Int).natAbs < 2 ^ 62 by omega) (Nat.pow_le_pow_right (by decide) (by decide))⟩
    · decide
    · obtain ⟨i, rfl, hi⟩ := hxx x xm
      refine atI_nat ?_
      rw [hf.nm, List.getElem?_map, List.getElem?_range hi]
      rfl
    generalize (List.map (fun x : Int => nmAt x.toNat) _) = ch
    refine go_if (et_B (ev_call (z := (LcArgs.mk _ _ _ _)) (ea_cons (ev_var rfl) (ea_cons (ev_var rfl) (ea_cons (ev_var rfl) (ea_cons (ev_var rfl) ea_nil)))) ?_)) (fun h => ?_) (fun _ => go_next fun σ H o => ⟨(), trivial, o.sb (by walk_at "sb")⟩)
    · exact lok _
    refine go_if (et_of (ev_neD (eqLs eqSt) (ev_lcf (K := K) (iv_list (ev_var rfl)) tgt_name (by simp) ?_ (fun _ _ _ x _ xm => (et_of (ev_niS (ev_var rfl) (ev_var rfl)))) (fun _ _ _ x _ xm px => (ev_var rfl))) (ev_nil (K := K)) ?_ ?_ (by simp [eqLs, eqSt, eqFr, eqInt]))) (fun h3 => ?_) (fun _ => go_next fun σ H o => ⟨(), trivial, o.sb (by walk_at "sb")⟩)
    · exact sz _ (by omega)
    · exact lay_ls _ (fok _ _ tok)
    · rfl
    · exfalso
      obtain ⟨c1, c2⟩ := closedB_iff.mp h
      have : ((inN ks bs).map Bd.name).filter (fun z => !decide (z ∈ ch)) = [] := List.filter_eq_nil_iff.mpr fun z m => by
        have hz : z ∈ ch := hks.least ch (fun y q => by
          obtain ⟨b, mb, rfl⟩ := List.mem_map.mp (sow.subset q)
          exact c1 b mb q) c2 z (mem_told.mp m).2
        simp [hz]
      rw [this] at h3
      simp at h3
  dsimp only
  refine go_at o ?_
  have dokR : DfOk ⟨bs.reverse, ow.reverse, ex⟩ := ⟨fun b m => hf.ok b (List.mem_reverse.mp m), by show bs.reverse.length ≤ 20; rw [List.length_reverse]; omega, by show ow.reverse.length ≤ 100; rw [List.length_reverse]; omega, by show ex.length ≤ 100; omega,
    fun z m => by show z ∈ bs.reverse.map Bd.name; rw [List.map_reverse, List.mem_reverse]; exact sow.subset (List.mem_reverse.mp m), fun z m => by show z ∈ bs.reverse.map Bd.name; rw [List.map_reverse, List.mem_reverse]; exact sex.subset m⟩
  refine go_setx (evx_call (z := (DfArgs.mk _ _ _)) (ea_cons (ev_listRev (ev_var rfl)) (ea_cons (ev_listRev (ev_var rfl)) (ea_cons (ev_LT (ev_list (ev_var rfl))) ea_nil))) ?_) fun other ho => ?_
  · exact dokR
  obtain ⟨kr, hkr, eo⟩ := ho
  have hiff : ∀ z, z ∈ ks ↔ z ∈ kr := Least.mem_iff (List.reverse_perm bs).symm (fun z => List.mem_reverse.symm) hks hkr
  have er : (inN kr bs.reverse).map Bd.name = ((bs.map Bd.name).reverse.filter fun z => decide (z ∈ (inN ks bs).map Bd.name)).map fun z => z := by
    rw [List.map_id', inN_names, List.map_reverse]
    refine List.filter_congr fun z m => ?_
    rw [Bool.eq_iff_iff, decide_eq_true_eq, decide_eq_true_eq, mem_told, hiff]
    exact ⟨fun h => ⟨List.mem_reverse.mp m, h⟩, fun h => h.2⟩
  have eo := eo.trans er
  refine go_ifr (et_of (ev_neD (eqLs eqSt) (ev_var rfl) (ev_lcf (K := K) (iv_rev (ev_var rfl)) tgt_name (by simp) ?_ (fun _ _ _ x _ xm => (et_of (ev_inS (ev_var rfl) (ev_var rfl)))) (fun _ _ _ x _ xm px => (ev_var rfl))) ?_ ?_ (by simp [eqLs, eqSt, eqFr, eqInt]))) (fun h => ?_) (fun _ => ?_)
  · rw [List.length_reverse]
    exact sz _ (by omega)
  · rw [eo]
    exact lay_ls _ (fok _ _ fun z m => nok z (List.mem_reverse.mp m))
  · exact lay_ls _ (fok _ _ fun z m => nok z (List.mem_reverse.mp m))
  · rw [eo] at h
    simp at h
  refine go_ifrx (etx_and (Et.toX (et_of (ev_eqD (eqLs eqSt) (ev_var rfl) (ev_nil (K := K)) ?_ ?_ (by simp [eqLs, eqSt, eqFr, eqInt]))) rfl) (etx_of (evx_neD (eqLs eqSt) (evx_callD (z := DfArgs.mk _ _ []) (ds := [(tLT K tSt).is []]) (ea_cons (ev_list (ev_var rfl)) (ea_cons (ev_list (ev_var rfl)) ea_nil)) hT rfl ?_) (ev_var rfl) ?_ ?_ (by simp [eqLs, eqSt, eqFr, eqInt])))) (fun h => ?_) (fun _ => ?_)
  · exact lay_ls _ fun z m => lay_st (nok z (sex.subset m))
  · rfl
  · exact ⟨hf.ok, by show bs.length ≤ 20; omega, by show ow.length ≤ 100; omega, by show (0 : Nat) ≤ 100; omega, fun z m => sow.subset m, fun z m => nomatch m⟩
  · rintro y ⟨k2, _, rfl⟩
    exact lay_ls _ fun z m => lay_st (nok z (mem_told.mp m).1)
  · exact lay_ls _ fun z m => lay_st (tok z m)
  · exfalso
    simp only [if_true] at h
    obtain ⟨h1, y, ⟨k2, hk2, rfl⟩, h3⟩ := h
    have e : ex = [] := of_decide_eq_true h1
    subst e
    have i2 : ∀ z, z ∈ k2 ↔ z ∈ ks := Least.mem_iff (List.Perm.refl bs) (fun z => Iff.rfl) hk2 hks
    have : inN k2 bs = inN ks bs := List.filter_congr fun b _ => by rw [Bool.eq_iff_iff, decide_eq_true_eq, decide_eq_true_eq, i2]
    rw [this] at h3
    simp at h3
  refine go_setx (evx_cat (ev_var rfl) (evx_lc (K := K) (iv_list (ev_var rfl)) tgt_name (by simp) ?_ (fun _ _ _ x _ xm => (etx_and (Et.toX (et_of (ev_niS (ev_var rfl) (ev_var rfl))) rfl) (etx_and (Et.toX (et_of (ev_niS (ev_var rfl) (ev_var rfl))) rfl) (etx_eqI (evx_draw (K := K) rfl (List.mem_cons_of_mem _ (List.mem_cons_self ..)) ev_int (by decide) (lt8 (by decide))) ev_int)))) (fun _ _ _ x _ xm px => (Ev.xe (ev_var rfl)))) ?_) fun more hm => ?_
  · exact sz _ (by omega)
  · intro ys hy
    have := hy.sub.length_le
    exact sl _ (by omega)
  obtain ⟨ys, hy, rfl⟩ := hm
  have sy := hy.sub
  have ly := sy.length_le
  refine go_setx (evx_call (z := (DfArgs.mk _ _ _)) (ea_cons (ev_list (ev_var rfl)) (ea_cons (ev_var rfl) (ea_cons (ev_LT (ev_list (ev_var rfl))) ea_nil))) ?_) fun wider hw => ?_
  · exact ⟨hf.ok, by show bs.length ≤ 20; omega, by show (ow ++ ys).length ≤ 100; rw [List.length_append]; omega, by show ex.length ≤ 100; omega, fun z m => (List.mem_append.mp m).elim (fun m => sow.subset m) (fun m => sy.subset m), fun z m => sex.subset m⟩
  obtain ⟨kw, hkw, rfl⟩ := hw
  have sub : ∀ z, z ∈ ks → z ∈ kw := hks.least kw (fun y q => hkw.own y (List.mem_append_left _ q)) hkw.cl
  have e9 : ((inN ks bs).map Bd.name).filter (fun z => !decide (z ∈ (inN kw bs).map Bd.name)) = [] := List.filter_eq_nil_iff.mpr fun z m => by
    have hz : z ∈ (inN kw bs).map Bd.name := mem_told.mpr ⟨(mem_told.mp m).1, sub z (mem_told.mp m).2⟩
    simp [hz]
  refine go_end (y := true) (ev_is (ev_eqD (eqLs eqSt) (ev_lcf (K := K) (iv_list (ev_var rfl)) tgt_name (by simp) ?_ (fun _ _ _ x _ xm => (et_of (ev_niS (ev_var rfl) (ev_var rfl)))) (fun _ _ _ x _ xm px => (ev_var rfl))) (ev_nil (K := K)) ?_ ?_ (by simp [eqLs, eqSt, eqFr, eqInt])) ?_) out
  · exact sz _ (by omega)
  · exact lay_ls _ (fok _ _ tok)
  · rfl
  · rw [e9]
    rfl
end
end Cs
set_option maxHeartbeats 4000000
namespace Cs
open PySem PySem.Spec PyProof.Rows L2
local macro_rules | `(tactic| walk_at "rd") => `(tactic| (first
  | (refine ⟨_, rfl, ?_⟩)
  | (refine ⟨_, _, rfl, rfl, ?_⟩)
  | (refine .inl ⟨_, rfl, ?_⟩)
  | (refine .inr ⟨_, rfl, ?_⟩)
  | (refine ⟨_, _, _, _, rfl, rfl, SqL.of upd_same, rfl, ?_⟩)
  | (refine ⟨_, _, _, _, rfl, rfl, upd_same, rfl, ?_⟩)
  | (refine ⟨_, ?xs, _, ?v, rfl, rfl, ?h, ?x, ?_⟩; (case h => first | exact SqL.of (by assumption) | exact SqT.of (by assumption) | assumption); (case x => first | rfl | exact atI_nat (j := 0) rfl | exact atI_nat (j := 1) rfl))))
local macro_rules | `(tactic| walk_at "isi") => `(tactic| (first
  | (refine ⟨_, _, _, _, _, rfl, .ty _, .base (.int _), kit_ty kit_it, ?_⟩)
  | (refine ⟨_, _, _, _, _, rfl, .ty _, .base (.int _), kit_ty kit_ib, ?_⟩)
  | (refine ⟨_, _, _, _, _, rfl, .ty _, .base (.int _), kit_ty kit_ii, ?_⟩)
  | (refine ⟨_, _, _, _, _, rfl, .ty _, .base (.bl _), kit_ty kit_bt, ?_⟩)
  | (refine ⟨_, _, _, _, _, rfl, .ty _, .base (.bl _), kit_ty kit_bb, ?_⟩)
  | (refine ⟨_, _, _, _, _, rfl, .ty _, .base (.bl _), kit_ty kit_bi, ?_⟩)))
theorem bdDeck (kV doc pm : Value) (an : Option Addr) (cdv ct : Value) (us : List Value) (hl : us.length = (["script"] : List Str).length) : bindArgs (PySem.W.fnOf "_law_deck" "_law_deck" (defArgs sDeck) (defBody sDeck) (defScope sDeck) .none kV doc pm an cdv ct) ⟨us, []⟩ = pure ((["script"] : List Str).zip us) := match us, hl with | [_], _ => rfl
theorem bdDraw (kV doc pm : Value) (an : Option Addr) (cdv ct : Value) (us : List Value) (hl : us.length = (["deck", "most"] : List Str).length) : bindArgs (PySem.W.fnOf "_law_draw" "_law_draw" (defArgs sDraw) (defBody sDraw) (defScope sDraw) .none kV doc pm an cdv ct) ⟨us, []⟩ = pure ((["deck", "most"] : List Str).zip us) := match us, hl with | [_, _], _ => rfl
theorem bdGcd (kV doc pm : Value) (an : Option Addr) (cdv ct : Value) (us : List Value) (hl : us.length = (["a", "b"] : List Str).length) : bindArgs (PySem.W.fnOf "_law_gcd" "_law_gcd" (defArgs sGcd) (defBody sGcd) (defScope sGcd) .none kV doc pm an cdv ct) ⟨us, []⟩ = pure ((["a", "b"] : List Str).zip us) := match us, hl with | [_, _], _ => rfl
theorem bdRatio (kV doc pm : Value) (an : Option Addr) (cdv ct : Value) (us : List Value) (hl : us.length = (["p", "q"] : List Str).length) : bindArgs (PySem.W.fnOf "_law_ratio" "_law_ratio" (defArgs sRatio) (defBody sRatio) (defScope sRatio) .none kV doc pm an cdv ct) ⟨us, []⟩ = pure ((["p", "q"] : List Str).zip us) := match us, hl with | [_, _], _ => rfl
theorem bdPlus (kV doc pm : Value) (an : Option Addr) (cdv ct : Value) (us : List Value) (hl : us.length = (["a", "b"] : List Str).length) : bindArgs (PySem.W.fnOf "plus" "plus" (defArgs sPlus) (defBody sPlus) (defScope sPlus) .none kV doc pm an cdv ct) ⟨us, []⟩ = pure ((["a", "b"] : List Str).zip us) := match us, hl with | [_, _], _ => rfl
theorem bdTimes (kV doc pm : Value) (an : Option Addr) (cdv ct : Value) (us : List Value) (hl : us.length = (["a", "b"] : List Str).length) : bindArgs (PySem.W.fnOf "times" "times" (defArgs sTimes) (defBody sTimes) (defScope sTimes) .none kV doc pm an cdv ct) ⟨us, []⟩ = pure ((["a", "b"] : List Str).zip us) := match us, hl with | [_, _], _ => rfl
theorem bdSign (kV doc pm : Value) (an : Option Addr) (cdv ct : Value) (us : List Value) (hl : us.length = (["a"] : List Str).length) : bindArgs (PySem.W.fnOf "sign" "sign" (defArgs sSign) (defBody sSign) (defScope sSign) .none kV doc pm an cdv ct) ⟨us, []⟩ = pure ((["a"] : List Str).zip us) := match us, hl with | [_], _ => rfl
theorem bdOrder (kV doc pm : Value) (an : Option Addr) (cdv ct : Value) (us : List Value) (hl : us.length = (["a", "b"] : List Str).length) : bindArgs (PySem.W.fnOf "order" "order" (defArgs sOrder) (defBody sOrder) (defScope sOrder) .none kV doc pm an cdv ct) ⟨us, []⟩ = pure ((["a", "b"] : List Str).zip us) := match us, hl with | [_, _], _ => rfl
theorem bdTotal (kV doc pm : Value) (an : Option Addr) (cdv ct : Value) (us : List Value) (hl : us.length = (["values"] : List Str).length) : bindArgs (PySem.W.fnOf "total" "total" (defArgs sTotal) (defBody sTotal) (defScope sTotal) .none kV doc pm an cdv ct) ⟨us, []⟩ = pure ((["values"] : List Str).zip us) := match us, hl with | [_], _ => rfl
theorem bdSize (kV doc pm : Value) (an : Option Addr) (cdv ct : Value) (us : List Value) (hl : us.length = (["bond"] : List Str).length) : bindArgs (PySem.W.fnOf "size" "size" (defArgs sSize) (defBody sSize) (defScope sSize) .none kV doc pm an cdv ct) ⟨us, []⟩ = pure ((["bond"] : List Str).zip us) := match us, hl with | [_], _ => rfl
theorem bdIsBound (kV doc pm : Value) (an : Option Addr) (cdv ct : Value) (us : List Value) (hl : us.length = (["bond", "others"] : List Str).length) : bindArgs (PySem.W.fnOf "_is_bound" "_is_bound" (defArgs sIsBound) (defBody sIsBound) (defScope sIsBound) .none kV doc pm an cdv ct) ⟨us, []⟩ = pure ((["bond", "others"] : List Str).zip us) := match us, hl with | [_, _], _ => rfl
theorem bdCkN (kV doc pm : Value) (an : Option Addr) (cdv ct : Value) (us : List Value) (hl : us.length = (["bonds", "names"] : List Str).length) : bindArgs (PySem.W.fnOf "_check_names" "_check_names" (defArgs sCkN) (defBody sCkN) (defScope sCkN) .none kV doc pm an cdv ct) ⟨us, []⟩ = pure ((["bonds", "names"] : List Str).zip us) := match us, hl with | [_, _], _ => rfl
theorem bdLAdd (kV doc pm : Value) (an : Option Addr) (cdv ct : Value) (us : List Value) (hl : us.length = (["a", "b"] : List Str).length) : bindArgs (PySem.W.fnOf "_law_add" "_law_add" (defArgs sLAdd) (defBody sLAdd) (defScope sLAdd) .none kV doc pm an cdv ct) ⟨us, []⟩ = pure ((["a", "b"] : List Str).zip us) := match us, hl with | [_, _], _ => rfl
theorem bdLOrder (kV doc pm : Value) (an : Option Addr) (cdv ct : Value) (us : List Value) (hl : us.length = (["a", "b"] : List Str).length) : bindArgs (PySem.W.fnOf "_law_order" "_law_order" (defArgs sLOrder) (defBody sLOrder) (defScope sLOrder) .none kV doc pm an cdv ct) ⟨us, []⟩ = pure ((["a", "b"] : List Str).zip us) := match us, hl with | [_, _], _ => rfl
theorem bdLTotal (kV doc pm : Value) (an : Option Addr) (cdv ct : Value) (us : List Value) (hl : us.length = (["values"] : List Str).length) : bindArgs (PySem.W.fnOf "_law_total" "_law_total" (defArgs sLTotal) (defBody sLTotal) (defScope sLTotal) .none kV doc pm an cdv ct) ⟨us, []⟩ = pure ((["values"] : List Str).zip us) := match us, hl with | [_], _ => rfl
theorem bdLSize (kV doc pm : Value) (an : Option Addr) (cdv ct : Value) (us : List Value) (hl : us.length = (["bond"] : List Str).length) : bindArgs (PySem.W.fnOf "_law_size" "_law_size" (defArgs sLSize) (defBody sLSize) (defScope sLSize) .none kV doc pm an cdv ct) ⟨us, []⟩ = pure ((["bond"] : List Str).zip us) := match us, hl with | [_], _ => rfl
theorem bdLBound (kV doc pm : Value) (an : Option Addr) (cdv ct : Value) (us : List Value) (hl : us.length = (["bonds", "name", "names"] : List Str).length) : bindArgs (PySem.W.fnOf "_law_bound" "_law_bound" (defArgs sLBound) (defBody sLBound) (defScope sLBound) .none kV doc pm an cdv ct) ⟨us, []⟩ = pure ((["bonds", "name", "names"] : List Str).zip us) := match us, hl with | [_, _, _], _ => rfl
theorem bdLClosed (kV doc pm : Value) (an : Option Addr) (cdv ct : Value) (us : List Value) (hl : us.length = (["bonds", "own", "exempt", "names"] : List Str).length) : bindArgs (PySem.W.fnOf "_law_is_closed" "_law_is_closed" (defArgs sLClosed) (defBody sLClosed) (defScope sLClosed) .none kV doc pm an cdv ct) ⟨us, []⟩ = pure ((["bonds", "own", "exempt", "names"] : List Str).zip us) := match us, hl with | [_, _, _, _], _ => rfl
theorem bdLFam (kV doc pm : Value) (an : Option Addr) (cdv ct : Value) (us : List Value) (hl : us.length = (["deck"] : List Str).length) : bindArgs (PySem.W.fnOf "_law_family" "_law_family" (defArgs sLFam) (defBody sLFam) (defScope sLFam) .none kV doc pm an cdv ct) ⟨us, []⟩ = pure ((["deck"] : List Str).zip us) := match us, hl with | [_], _ => rfl
theorem bdFraction0 (T : Addr) (kV doc pm : Value) (an : Option Addr) (cdv ct : Value) (us its : List Value) (hl : us.length = 2) (hi : its.length = 1) :
      ∃ k, bindArgs (PySem.W.fnOf "fraction" "fraction" (defArgs sFraction) (defBody sFraction) (defScope sFraction) (.ref T) kV doc pm an cdv ct) ⟨us, []⟩ = seqItems? (.ref T) >>= k ∧ k (some its.toArray) = pure ((["p", "q"] : List Str).zip (us ++ its.drop 1)) := match us, its, hl, hi with | [_, _], [_], _, _ => ⟨_, rfl, rfl⟩
theorem bdFraction1 (T : Addr) (kV doc pm : Value) (an : Option Addr) (cdv ct : Value) (us its : List Value) (hl : us.length = 1) (hi : its.length = 1) :
      ∃ k, bindArgs (PySem.W.fnOf "fraction" "fraction" (defArgs sFraction) (defBody sFraction) (defScope sFraction) (.ref T) kV doc pm an cdv ct) ⟨us, []⟩ = seqItems? (.ref T) >>= k ∧ k (some its.toArray) = pure ((["p", "q"] : List Str).zip (us ++ its.drop 0)) := match us, its, hl, hi with | [_], [_], _, _ => ⟨_, rfl, rfl⟩
theorem bdDfl0 (T : Addr) (kV doc pm : Value) (an : Option Addr) (cdv ct : Value) (us its : List Value) (hl : us.length = 3) (hi : its.length = 1) :
      ∃ k, bindArgs (PySem.W.fnOf "defaults" "defaults" (defArgs sDfl) (defBody sDfl) (defScope sDfl) (.ref T) kV doc pm an cdv ct) ⟨us, []⟩ = seqItems? (.ref T) >>= k ∧ k (some its.toArray) = pure ((["bonds", "own", "exempt"] : List Str).zip (us ++ its.drop 1)) := match us, its, hl, hi with | [_, _, _], [_], _, _ => ⟨_, rfl, rfl⟩
theorem bdDfl1 (T : Addr) (kV doc pm : Value) (an : Option Addr) (cdv ct : Value) (us its : List Value) (hl : us.length = 2) (hi : its.length = 1) :
      ∃ k, bindArgs (PySem.W.fnOf "defaults" "defaults" (defArgs sDfl) (defBody sDfl) (defScope sDfl) (.ref T) kV doc pm an cdv ct) ⟨us, []⟩ = seqItems? (.ref T) >>= k ∧ k (some its.toArray) = pure ((["bonds", "own", "exempt"] : List Str).zip (us ++ its.drop 0)) := match us, its, hl, hi with | [_, _], [_], _, _ => ⟨_, rfl, rfl⟩
theorem bdBInit (kV doc pm : Value) (an : Option Addr) (cdv ct : Value) (us ws : List Value) (h1 : us.length = 3) (h2 : ws.length = bdKs.length) : bindArgs (PySem.W.fnOf "__init__" "Bond.__init__" (defArgs sBInit) (defBody sBInit) (defScope sBInit) .none kV doc pm an cdv ct) ⟨us, bdKs.zip ws⟩ = pure (bdPs.zip (us ++ ws)) := bind_kw (N := ["self", "name", "issuer"]) (Kn := bdKs) rfl rfl rfl rfl rfl rfl (by decide +kernel) h1 h2
theorem all_mk {l : PySem.W.OpenLaw} {w : World} {K : PySem.W.Frag} {h : Heap} {mg : Str → Option Value} {fa : Addr} {zZ zT : Addr} {dZ dT : Option Addr} {tk0 tk1 : Tok} {nZ nT : Nat} {slZ slT : Array (Option Value)} {CB fI : Addr} {odI anI : Option Addr} {slI : Array (Option Value)} {ocI kVI dcI pmI cdI ctI : Value} (X : K.In h) (G : h.Ns mainGlobals mg) (hfa : mg "law" = some (.ref fa))
    (gDeck : FunG K mg "_law_deck" sDeck ["script"])
    (gDraw : FunG K mg "_law_draw" sDraw ["deck", "most"])
    (gGcd : FunG K mg "_law_gcd" sGcd ["a", "b"])
    (gRatio : FunG K mg "_law_ratio" sRatio ["p", "q"])
    (gPlus : FunG K mg "plus" sPlus ["a", "b"])
    (gTimes : FunG K mg "times" sTimes ["a", "b"])
    (gSign : FunG K mg "sign" sSign ["a"])
    (gOrder : FunG K mg "order" sOrder ["a", "b"])
    (gTotal : FunG K mg "total" sTotal ["values"])
    (gSize : FunG K mg "size" sSize ["bond"])
    (gIsBound : FunG K mg "_is_bound" sIsBound ["bond", "others"])
    (gCkN : FunG K mg "_check_names" sCkN ["bonds", "names"])
    (gLAdd : FunG K mg "_law_add" sLAdd ["a", "b"])
    (gLOrder : FunG K mg "_law_order" sLOrder ["a", "b"])
    (gLTotal : FunG K mg "_law_total" sLTotal ["values"])
    (gLSize : FunG K mg "_law_size" sLSize ["bond"])
    (gLBound : FunG K mg "_law_bound" sLBound ["bonds", "name", "names"])
    (gLClosed : FunG K mg "_law_is_closed" sLClosed ["bonds", "own", "exempt", "names"])
    (gLFam : FunG K mg "_law_family" sLFam ["deck"])
    (gFraction : FunDG K mg "fraction" sFraction ["p", "q"] [.int 1])
    (gDfl : FunDG K mg "defaults" sDfl ["bonds", "own", "exempt"] [.ref zT])
    {f2 : Addr} {od2 an2 : Option Addr} {sl2 : Array (Option Value)} {oc2 kV2 dc2 pm2 cd2 ct2 : Value}
    (a2 : PySem.W.nsIn K mainGlobals "law" = some (some (.ref f2))) (l2 : K.lookup f2 = some ⟨oc2, od2, .func (PySem.W.fnOf "law" "law" (defArgs sLaw) (defBody sLaw) (defScope sLaw) .none kV2 dc2 pm2 an2 cd2 ct2), sl2⟩) (c2 : PySem.W.codeIn K cd2 "law" = true) (k2 : PySem.W.keepIn K (.ref f2) = true)
    (y_len : PySem.W.nsIn K mainGlobals "len" = some none)
    (y_int : PySem.W.nsIn K mainGlobals "int" = some none)
    (y_abs : PySem.W.nsIn K mainGlobals "abs" = some none)
    (y_range : PySem.W.nsIn K mainGlobals "range" = some none)
    (y_isinstance : PySem.W.nsIn K mainGlobals "isinstance" = some none)
    (y_list : PySem.W.nsIn K mainGlobals "list" = some none)
    (y_reversed : PySem.W.nsIn K mainGlobals "reversed" = some none)
    (y_gcd : PySem.W.nsIn K mainGlobals "gcd" = some (some (.builtin "math.gcd")))
    (yZ : PySem.W.nsIn K mainGlobals "ZERO" = some (some (.ref zZ)))
    (lZ : K.lookup zZ = some ⟨.type "tuple", dZ, .seq #[.int 0 tk0, .int 1 tk1] nZ, slZ⟩)
    (lT : K.lookup zT = some ⟨.type "tuple", dT, .seq #[] nT, slT⟩)
    (aB : PySem.W.nsIn K mainGlobals "Bond" = some (some (.ref CB)))
    (iB : PySem.W.findIn K (.ref CB) "__init__" = some (some (.ref fI)))
    (jB : PySem.W.isFn K (.ref fI) = true)
    (lB : K.lookup fI = some ⟨ocI, odI, .func (PySem.W.fnOf "__init__" "Bond.__init__" (defArgs sBInit) (defBody sBInit) (defScope sBInit) .none kVI dcI pmI anI cdI ctI), slI⟩)
    (cB : PySem.W.codeIn K cdI "Bond.__init__" = true)
    (kB : PySem.W.keepIn K (.ref fI) = true)
    (pgB : PySem.W.plainGet K CB Str.empty = true)
    (hdB : PySem.W.hasDictIn K CB = true)
    (poB : PySem.W.plainOver K CB = true)
    (saB : PySem.W.findIn K (.ref CB) "__setattr__" = some (some (.builtin "object.__setattr__")))
    (mkB : PySem.W.makesIn K CB = true)
    (kcB : PySem.W.keepIn K (.ref CB) = true)
    (nB0 : PySem.W.findIn K (.ref CB) "name" = some none)
    (nB1 : PySem.W.findIn K (.ref CB) "issuer" = some none)
    (nB2 : PySem.W.findIn K (.ref CB) "units" = some none)
    (nB3 : PySem.W.findIn K (.ref CB) "face" = some none)
    (nB4 : PySem.W.findIn K (.ref CB) "cross" = some none)
    (nB5 : PySem.W.findIn K (.ref CB) "first_day" = some none)
    (nB6 : PySem.W.findIn K (.ref CB) "last_day" = some none)
    (nB7 : PySem.W.findIn K (.ref CB) "months" = some none)
    (nB8 : PySem.W.findIn K (.ref CB) "count" = some none)
    (nB9 : PySem.W.findIn K (.ref CB) "adjust" = some none)
    (nB10 : PySem.W.findIn K (.ref CB) "record" = some none)
    (nB11 : PySem.W.findIn K (.ref CB) "rank" = some none)
    (nB12 : PySem.W.findIn K (.ref CB) "lets" = some none)
    (nB13 : PySem.W.findIn K (.ref CB) "coupon" = some none)
    (nB14 : PySem.W.findIn K (.ref CB) "promises" = some none)
    (nB15 : PySem.W.findIn K (.ref CB) "calls" = some none) :
    ∃ fd : FuncData, (∀ (s : Shared) (v : Value), BindsTo s fd ⟨[v], []⟩ [("script", v)]) ∧ ∀ base : Heap, K.In base → base.Ns mainGlobals mg → FnOk l.prog w K mg base CX0 7 fa fd ["script"] (spLawT K) := by
  have e := hfa.symm.trans (PySem.W.mg_of X G a2)
  cases e
  have z_len := PySem.W.mg_none_of X G y_len
  have z_int := PySem.W.mg_none_of X G y_int
  have z_abs := PySem.W.mg_none_of X G y_abs
  have z_range := PySem.W.mg_none_of X G y_range
  have z_isinstance := PySem.W.mg_none_of X G y_isinstance
  have z_list := PySem.W.mg_none_of X G y_list
  have z_reversed := PySem.W.mg_none_of X G y_reversed
  refine ⟨PySem.W.fnOf "law" "law" (defArgs sLaw) (defBody sLaw) (defScope sLaw) .none kV2 dc2 pm2 an2 cd2 ct2, fun s v => .of_eq rfl, fun base _ _ => ?_⟩
  have kL : PySem.W.kitOne K (.type "list") (.type "list") = some true := kit_ty (show kitB "list" "list" = some true by decide +kernel)
  have BC : BondC K CB := ⟨⟨pgB, hdB, poB, saB⟩, nB0, nB1, nB2, nB3, nB4, nB5, nB6, nB7, nB8, nB9, nB10, nB11, nB12, nB13, nB14, nB15⟩
  have FB := fun_mk (st := sBInit) lB cB kB
  have MB : MkBd l.prog w K mg base 1 CB fI _ (fun us ws => us ++ ws) := ⟨⟨mkB, iB, jB, kcB⟩, ok_binit (k := 0) FB BC z_list, PySem.W.mg_of X G aB, ⟨fun s us ws _ h1 h2 => .of_eq (bdBInit kVI dcI pmI anI cdI ctI us ws h1 h2), fun a b => a.append b⟩⟩
  have hZ : ∀ H, SqT K H zZ [.int 0, .int 1] := fun H => .inr ⟨_, #[.int 0 tk0, .int 1 tk1], nZ, lZ, rfl, rfl, by show 2 ≤ sizeLine; decide, .cons ⟨tk0, rfl⟩ (.cons ⟨tk1, rfl⟩ .nil)⟩
  have hT : ∀ H, Fits H [(tLT K tSt).is []] [.ref zT] := fun H => ⟨⟨zT, [], rfl, .inr (.inr ⟨_, #[], nT, lT, rfl, rfl, Nat.zero_le _, .nil⟩), trivial⟩, trivial⟩
  obtain ⟨cFraction, cFraction1⟩ := Cal.ofD (P := l.prog) (w := w) (base := base) (k := 1) (sp := spFrac) gFraction fun F => ok_fraction (k := 0) F (PySem.W.mg_of X G y_gcd)
  have cDeck : Cal l.prog w K mg base 1 "_law_deck" ["script"] (spDeckN K) := Cal.of gDeck fun F => ok_deck (k := 0) F z_list
  have cDraw : Cal l.prog w K mg base 1 "_law_draw" ["deck", "most"] (spDrawA K) := Cal.of gDraw fun F => ok_draw (k := 0) F z_len z_int
  have cGcd : Cal l.prog w K mg base 1 "_law_gcd" ["a", "b"] spGcd := Cal.of gGcd fun F => ok_gcd (k := 0) F z_range z_int
  have cRatio : Cal l.prog w K mg base 2 "_law_ratio" ["p", "q"] spRatio := Cal.of gRatio fun F => ok_ratio (k := 1) F cGcd z_abs
  have cPlus : Cal l.prog w K mg base 2 "plus" ["a", "b"] (spPlus K) := Cal.of gPlus fun F => ok_plus (k := 1) F cFraction
  have cTimes : Cal l.prog w K mg base 2 "times" ["a", "b"] (spTimes K) := Cal.of gTimes fun F => ok_times (k := 1) F cFraction
  have cSign : Cal l.prog w K mg base 1 "sign" ["a"] (spSign K) := Cal.of gSign fun F => ok_sign (k := 0) F
  have cOrder : Cal l.prog w K mg base 2 "order" ["a", "b"] (spOrder K) := Cal.of gOrder fun F => ok_order (k := 1) F cSign
  have cTotal : Cal l.prog w K mg base 3 "total" ["values"] (spTotal K) := Cal.of gTotal fun F => ok_total (k := 2) F cPlus (PySem.W.mg_of X G yZ) hZ
  have cSize : Cal l.prog w K mg base 3 "size" ["bond"] (spSize K CB) := Cal.of gSize fun F => ok_size (k := 2) F BC (cFraction1.mono (by decide)) cTimes
  have cIsBound : Cal l.prog w K mg base 4 "_is_bound" ["bond", "others"] (spBound K CB) := Cal.of gIsBound fun F => ok_is_bound (k := 3) F BC cSize cTotal (cOrder.mono (by decide))
  have cCkN : Cal l.prog w K mg base 1 "_check_names" ["bonds", "names"] (spCkN K CB) := Cal.of gCkN fun F => ok_ckn (k := 0) F BC
  obtain ⟨cDfl, cDfl1⟩ := Cal.ofD (P := l.prog) (w := w) (base := base) (k := 5) (sp := (spDefaults K CB)) gDfl fun F => ok_defaults (k := 4) F BC (cCkN.mono (by decide)) cIsBound
  have cLAdd : Cal l.prog w K mg base 3 "_law_add" ["a", "b"] (spLAdd K) := Cal.of gLAdd fun F => ok_ladd (k := 2) F cRatio
  have cLOrder : Cal l.prog w K mg base 1 "_law_order" ["a", "b"] (spLOrder K) := Cal.of gLOrder fun F => ok_lorder (k := 0) F z_int
  have cLTotal : Cal l.prog w K mg base 4 "_law_total" ["values"] (spTotal K) := Cal.of gLTotal fun F => ok_ltotal (k := 3) F cLAdd
  have cLSize : Cal l.prog w K mg base 3 "_law_size" ["bond"] (spSize K CB) := Cal.of gLSize fun F => ok_lsize (k := 2) F BC cRatio
  have cLBound : Cal l.prog w K mg base 5 "_law_bound" ["bonds", "name", "names"] (spLBound K CB) := Cal.of gLBound fun F => ok_lbound (k := 4) F BC (cLSize.mono (by decide)) cLTotal (cLOrder.mono (by decide))
  have cLClosed : Cal l.prog w K mg base 6 "_law_is_closed" ["bonds", "own", "exempt", "names"] (spLClosed K CB) := Cal.of gLClosed fun F => ok_lclosed (k := 5) F BC cLBound
  have cLFam : Cal l.prog w K mg base 3 "_law_family" ["deck"] (spLFam K CB) := Cal.of gLFam fun F => ok_lfam (k := 1) F MB (cDraw.mono (by decide)) cRatio z_range z_int
  exact ok_law (k := 6) (fun_mk (st := sLaw) l2 c2 k2) BC (cDeck.mono (by decide)) (cDraw.mono (by decide)) (cLFam.mono (by decide)) (cDfl.mono (by decide)) (cDfl1.mono (by decide)) cLClosed z_list z_isinstance z_reversed z_range z_len z_int kL hT
end Cs
open PySem PySem.W PyProof.Rows
set_option maxHeartbeats 0 in
theorem PySem.Challenge.cw_consol_k46_whole_least_set_of_defaults_holds : PySem.Challenge.rw_consol_k46_whole_least_set_of_defaults.Holds := by
  w_on; o_law; k_head; (case hw => w_witness2)
  k_fill
  refine L2.walk_of (l := PySem.Challenge.rw_consol_k46_whole_least_set_of_defaults) (n := 63) (k := 7) (x := "script") (CX := fun _ => L2.CX0) (sp := fun w => Cs.spLawT _) rfl (by decide) rfl ⟨rfl, by decide, by decide⟩ (fun w h Y => PySem.W.kIn_of Y) ?F (fun _ _ a ns hl _ hS => Cs.spL_in hS fun _ => rfl) (fun _ _ _ _ _ h => h)
  case F =>
    intro w mg fa h KX G hmg
    refine' Cs.all_mk KX G hmg (Cs.FunG.mk Cs.bdDeck KX G ?a0 ?l0 ?c0 ?k0) (Cs.FunG.mk Cs.bdDraw KX G ?a1 ?l1 ?c1 ?k1) (Cs.FunG.mk Cs.bdGcd KX G ?a2 ?l2 ?c2 ?k2) (Cs.FunG.mk Cs.bdRatio KX G ?a3 ?l3 ?c3 ?k3) (Cs.FunG.mk Cs.bdPlus KX G ?a4 ?l4 ?c4 ?k4) (Cs.FunG.mk Cs.bdTimes KX G ?a5 ?l5 ?c5 ?k5) (Cs.FunG.mk Cs.bdSign KX G ?a6 ?l6 ?c6 ?k6) (Cs.FunG.mk Cs.bdOrder KX G ?a7 ?l7 ?c7 ?k7) (Cs.FunG.mk Cs.bdTotal KX G ?a8 ?l8 ?c8 ?k8) (Cs.FunG.mk Cs.bdSize KX G ?a9 ?l9 ?c9 ?k9) (Cs.FunG.mk Cs.bdIsBound KX G ?a10 ?l10 ?c10 ?k10) (Cs.FunG.mk Cs.bdCkN KX G ?a11 ?l11 ?c11 ?k11) (Cs.FunG.mk Cs.bdLAdd KX G ?a12 ?l12 ?c12 ?k12) (Cs.FunG.mk Cs.bdLOrder KX G ?a13 ?l13 ?c13 ?k13) (Cs.FunG.mk Cs.bdLTotal KX G ?a14 ?l14 ?c14 ?k14) (Cs.FunG.mk Cs.bdLSize KX G ?a15 ?l15 ?c15 ?k15) (Cs.FunG.mk Cs.bdLBound KX G ?a16 ?l16 ?c16 ?k16) (Cs.FunG.mk Cs.bdLClosed KX G ?a17 ?l17 ?c17 ?k17) (Cs.FunG.mk Cs.bdLFam KX G ?a18 ?l18 ?c18 ?k18) (Cs.FunDG.mk 1 Cs.bdFraction0 Cs.bdFraction1 KX G ?aD0 ?lD0 ?cD0 ?kD0 ?tD0 (by simp) ?vD0 rfl) (Cs.FunDG.mk 2 Cs.bdDfl0 Cs.bdDfl1 KX G ?aD1 ?lD1 ?cD1 ?kD1 ?tD1 (by simp) ?vD1 rfl) ?aLw ?lLw ?cLw ?kLw ?y_len ?y_int ?y_abs ?y_range ?y_isinstance ?y_list ?y_reversed ?y_gcd ?yZ ?lZ ?lT ?aB ?iB ?jB ?lB ?cB ?kB ?pgB ?hdB ?poB ?saB ?mkB ?kcB ?nB0 ?nB1 ?nB2 ?nB3 ?nB4 ?nB5 ?nB6 ?nB7 ?nB8 ?nB9 ?nB10 ?nB11 ?nB12 ?nB13 ?nB14 ?nB15
    (case a0 => k_is)
    (case l0 => k_is)
    (case c0 => k_is)
    (case k0 => k_is)
    (case a1 => k_is)
    (case l1 => k_is)
    (case c1 => k_is)
    (case k1 => k_is)
    (case a2 => k_is)
    (case l2 => k_is)
    (case c2 => k_is)
    (case k2 => k_is)
    (case a3 => k_is)
    (case l3 => k_is)
    (case c3 => k_is)
    (case k3 => k_is)
    (case a4 => k_is)
    (case l4 => k_is)
    (case c4 => k_is)
    (case k4 => k_is)
    (case a5 => k_is)
    (case l5 => k_is)
    (case c5 => k_is)
    (case k5 => k_is)
    (case a6 => k_is)
    (case l6 => k_is)
    (case c6 => k_is)
    (case k6 => k_is)
    (case a7 => k_is)
    (case l7 => k_is)
    (case c7 => k_is)
    (case k7 => k_is)
    (case a8 => k_is)
    (case l8 => k_is)
    (case c8 => k_is)
    (case k8 => k_is)
    (case a9 => k_is)
    (case l9 => k_is)
    (case c9 => k_is)
    (case k9 => k_is)
    (case a10 => k_is)
    (case l10 => k_is)
    (case c10 => k_is)
    (case k10 => k_is)
    (case a11 => k_is)
    (case l11 => k_is)
    (case c11 => k_is)
    (case k11 => k_is)
    (case a12 => k_is)
    (case l12 => k_is)
    (case c12 => k_is)
    (case k12 => k_is)
    (case a13 => k_is)
    (case l13 => k_is)
    (case c13 => k_is)
    (case k13 => k_is)
    (case a14 => k_is)
    (case l14 => k_is)
    (case c14 => k_is)
    (case k14 => k_is)
    (case a15 => k_is)
    (case l15 => k_is)
    (case c15 => k_is)
    (case k15 => k_is)
    (case a16 => k_is)
    (case l16 => k_is)
    (case c16 => k_is)
    (case k16 => k_is)
    (case a17 => k_is)
    (case l17 => k_is)
    (case c17 => k_is)
    (case k17 => k_is)
    (case a18 => k_is)
    (case l18 => k_is)
    (case c18 => k_is)
    (case k18 => k_is)
    (case aD0 => k_is)
    (case lD0 => k_is)
    (case cD0 => k_is)
    (case kD0 => k_is)
    (case tD0 => k_is)
    (case vD0 => exact (.cons ⟨_, rfl⟩ .nil))
    (case aD1 => k_is)
    (case lD1 => k_is)
    (case cD1 => k_is)
    (case kD1 => k_is)
    (case tD1 => k_is)
    (case vD1 => exact (.cons rfl .nil))
    (case aLw => k_is)
    (case lLw => k_is)
    (case cLw => k_is)
    (case kLw => k_is)
    (case y_len => k_is)
    (case y_int => k_is)
    (case y_abs => k_is)
    (case y_range => k_is)
    (case y_isinstance => k_is)
    (case y_list => k_is)
    (case y_reversed => k_is)
    (case y_gcd => k_is)
    (case yZ => k_is)
    (case lZ => k_is)
    (case lT => k_is)
    (case aB => k_is)
    (case iB => k_is)
    (case jB => k_is)
    (case lB => k_is)
    (case cB => k_is)
    (case kB => k_is)
    (case pgB => k_is)
    (case hdB => k_is)
    (case poB => k_is)
    (case saB => k_is)
    (case mkB => k_is)
    (case kcB => k_is)
    (case nB0 => k_is)
    (case nB1 => k_is)
    (case nB2 => k_is)
    (case nB3 => k_is)
    (case nB4 => k_is)
    (case nB5 => k_is)
    (case nB6 => k_is)
    (case nB7 => k_is)
    (case nB8 => k_is)
    (case nB9 => k_is)
    (case nB10 => k_is)
    (case nB11 => k_is)
    (case nB12 => k_is)
    (case nB13 => k_is)
    (case nB14 => k_is)
    (case nB15 => k_is)
