import PyProof.Rows.All
import Wide.All
import OpenK.AllK
import Wide.FinOn
import HandS.ForMost
import HandS.Wide
import HandS.Gcd
import HandS.IsInst
import HandS.Defaults
import HandS.EndBits
import HandS.ForExc
import HandS.ExcIs
import HandS.Zip
import HandS.TupLe
import HandS.TryMany
import HandS.CallLocal
import HandS.CallSlots
import KE.KTupSum
import HandS.Walk
import HandS.ExcInit
import HandS.Star
import PySem.Challenge.RW_consol_k57_books_of_postings
import HandS.Dict
import HandS.DictComp
import HandS.MakeKwOnly
import HandS.Rev
import HandS.RevTup
import KE.KRevIter
import PyProof.ListNew
import HandS.ExcField
import HandS.Property
import HandS.More
import HandS.Iter
import PyProof.ReprRoads
import PyProof.ReprBulk
import PyProof.FitsInt
set_option Elab.async false
set_option linter.all false
set_option maxRecDepth 100000
set_option exponentiation.threshold 20000
namespace Cs
/-- the pair a fraction is -/
theorem divInt_pos (p q : Int) (hq : 0 < q) : (Rat.divInt p q).num = p / (Nat.gcd p.natAbs q.natAbs : Nat) ∧ ((Rat.divInt p q).den : Int) = q / (Nat.gcd p.natAbs q.natAbs : Nat) := by
  obtain ⟨n, rfl⟩ : ∃ n : Nat, q = (n : Int) := ⟨q.toNat, by omega⟩
  have hn : n ≠ 0 := by omega
  have e : Rat.divInt p (n : Int) = Rat.normalize p n hn := by
    rw [Rat.divInt_ofNat, ← Rat.normalize_eq_mkRat]
  rw [e, Rat.normalize_eq]
  refine ⟨rfl, ?_⟩
  show ((n / Nat.gcd p.natAbs n : Nat) : Int) = (n : Int) / (Nat.gcd p.natAbs (n : Int).natAbs : Nat)
  rw [Int.natAbs_natCast, Int.natCast_ediv]
theorem neg_ediv_dvd {a g : Int} (h : g ∣ a) : (-a) / g = -(a / g) := by
  obtain ⟨k, rfl⟩ := h
  by_cases hg : g = 0
  · subst hg; simp
  · rw [← Int.mul_neg, Int.mul_ediv_cancel_left _ hg, Int.mul_ediv_cancel_left _ hg]
theorem fdiv_neg_dvd {a g : Int} (hg : 0 < g) (h : g ∣ a) : a.fdiv (-g) = -(a / g) := by
  rw [Int.fdiv_neg (by omega), if_pos h, Int.fdiv_eq_ediv_of_nonneg _ (by omega)]
theorem gcd_dvd_p (p q : Int) : ((Nat.gcd p.natAbs q.natAbs : Nat) : Int) ∣ p := Int.ofNat_dvd_left.mpr (Nat.gcd_dvd_left _ _)
theorem gcd_dvd_q (p q : Int) : ((Nat.gcd p.natAbs q.natAbs : Nat) : Int) ∣ q := Int.ofNat_dvd_left.mpr (Nat.gcd_dvd_right _ _)
theorem gcd_pos (p q : Int) (hq : q ≠ 0) : 0 < ((Nat.gcd p.natAbs q.natAbs : Nat) : Int) := by
  have : 0 < Nat.gcd p.natAbs q.natAbs := Nat.gcd_pos_of_pos_right _ (by omega)
  omega
/-- what fraction computes -/
theorem frac_num (p q : Int) (hq : q ≠ 0) : (p.fdiv (if q < 0 then -((Nat.gcd p.natAbs q.natAbs : Nat) : Int) else ((Nat.gcd p.natAbs q.natAbs : Nat) : Int))) = (Rat.divInt p q).num := by
  have hg := gcd_pos p q hq
  split
  · rename_i h
    rw [fdiv_neg_dvd hg (gcd_dvd_p p q)]
    have e : Rat.divInt p q = Rat.divInt (-p) (-q) := by rw [Rat.neg_divInt_neg]
    rw [e, (divInt_pos (-p) (-q) (by omega)).1, Int.natAbs_neg, Int.natAbs_neg, neg_ediv_dvd (gcd_dvd_p p q)]
  · rename_i h
    rw [(divInt_pos p q (by omega)).1, Int.fdiv_eq_ediv_of_nonneg _ (by omega)]
theorem frac_den (p q : Int) (hq : q ≠ 0) : (q.fdiv (if q < 0 then -((Nat.gcd p.natAbs q.natAbs : Nat) : Int) else ((Nat.gcd p.natAbs q.natAbs : Nat) : Int))) = ((Rat.divInt p q).den : Int) := by
  have hg := gcd_pos p q hq
  split
  · rename_i h
    rw [fdiv_neg_dvd hg (gcd_dvd_q p q)]
    have e : Rat.divInt p q = Rat.divInt (-p) (-q) := by rw [Rat.neg_divInt_neg]
    rw [e, (divInt_pos (-p) (-q) (by omega)).2, Int.natAbs_neg, Int.natAbs_neg, neg_ediv_dvd (gcd_dvd_q p q)]
  · rename_i h
    rw [(divInt_pos p q (by omega)).2, Int.fdiv_eq_ediv_of_nonneg _ (by omega)]
/-! sizes -/
def Sz (n : Nat) (r : Rat) : Prop := r.num.natAbs < 2 ^ n ∧ r.den < 2 ^ n
theorem Sz.mono {n m : Nat} {r : Rat} (h : Sz n r) (k : n ≤ m) : Sz m r :=
  ⟨Nat.lt_of_lt_of_le h.1 (Nat.pow_le_pow_right (by decide) k), Nat.lt_of_lt_of_le h.2 (Nat.pow_le_pow_right (by decide) k)⟩
theorem sz_div {n : Nat} {p q : Int} (hq : q ≠ 0) (hp : p.natAbs < 2 ^ n) (h : q.natAbs < 2 ^ n) : Sz n (Rat.divInt p q) := by
  have hg := gcd_pos p q hq
  have key : ∀ p q : Int, 0 < q → p.natAbs < 2 ^ n → q.natAbs < 2 ^ n → Sz n (Rat.divInt p q) := by
    intro p q hq hp h
    have e1 := (divInt_pos p q hq).1
    have e2 := (divInt_pos p q hq).2
    refine ⟨?_, ?_⟩
    · rw [e1]
      refine Nat.lt_of_le_of_lt ?_ hp
      rw [Int.natAbs_ediv_of_dvd (gcd_dvd_p p q)]
      exact Nat.div_le_self _ _
    · have : (Rat.divInt p q).den = q.natAbs / (Nat.gcd p.natAbs q.natAbs) := by
        have : (((Rat.divInt p q).den : Int)).natAbs = (q / (Nat.gcd p.natAbs q.natAbs : Nat)).natAbs := by rw [e2]
        rw [Int.natAbs_natCast, Int.natAbs_ediv_of_dvd (gcd_dvd_q p q), Int.natAbs_natCast] at this
        exact this
      rw [this]
      exact Nat.lt_of_le_of_lt (Nat.div_le_self _ _) h
  by_cases hn : q < 0
  · have e : Rat.divInt p q = Rat.divInt (-p) (-q) := by rw [Rat.neg_divInt_neg]
    rw [e]
    exact key _ _ (by omega) (by rw [Int.natAbs_neg]; exact hp) (by rw [Int.natAbs_neg]; exact h)
  · exact key p q (by omega) hp h
theorem pow_lt {i j : Int} {a b : Nat} (ha : i.natAbs < 2 ^ a) (hb : j.natAbs < 2 ^ b) : (i * j).natAbs < 2 ^ (a + b) := by
  rw [Int.natAbs_mul, Nat.pow_add]
  exact Nat.mul_lt_mul'' ha hb
theorem add_lt {i j : Int} {a : Nat} (ha : i.natAbs < 2 ^ a) (hb : j.natAbs < 2 ^ a) : (i + j).natAbs < 2 ^ (a + 1) := by
  have : (2 : Nat) ^ (a + 1) = 2 ^ a * 2 := Nat.pow_succ ..
  omega
theorem sub_lt {i j : Int} {a : Nat} (ha : i.natAbs < 2 ^ a) (hb : j.natAbs < 2 ^ a) : (i - j).natAbs < 2 ^ (a + 1) := by
  have : (2 : Nat) ^ (a + 1) = 2 ^ a * 2 := Nat.pow_succ ..
  omega
theorem den_ne (r : Rat) : (r.den : Int) ≠ 0 := by have := r.den_nz; omega
theorem den_pos (r : Rat) : 0 < (r.den : Int) := by have := r.den_nz; omega
theorem add_div (r s : Rat) : Rat.divInt (r.num * s.den + s.num * r.den) (r.den * s.den) = r + s := by
  rw [← Rat.divInt_add_divInt _ _ (den_ne r) (den_ne s), Rat.num_divInt_den, Rat.num_divInt_den]
theorem sub_div (r s : Rat) : Rat.divInt (r.num * s.den - s.num * r.den) (r.den * s.den) = r - s := by
  rw [← Rat.divInt_sub_divInt _ _ (den_ne r) (den_ne s), Rat.num_divInt_den, Rat.num_divInt_den]
theorem mul_div (r s : Rat) : Rat.divInt (r.num * s.num) (r.den * s.den) = r * s := by
  rw [← Rat.divInt_mul_divInt, Rat.num_divInt_den, Rat.num_divInt_den]
theorem div_div (r s : Rat) : Rat.divInt (r.num * s.den) (r.den * s.num) = r / s := by
  rw [Rat.div_def, ← Rat.divInt_mul_divInt, Rat.num_divInt_den]
  rw [Rat.inv_def]
theorem num_ne {s : Rat} (h : s.num ≠ 0) : s ≠ 0 := fun e => h (by rw [e]; rfl)
/-! Euclid's steps -/
def EG (g : Nat) (N i : Nat) (a b : Nat) : Prop := Nat.gcd a b = g ∧ (i = 0 → a * b < 2 ^ N) ∧ (0 < i → b < a ∧ a * b < 2 ^ (N + 1 - i))
theorem EG.start {N a b : Nat} (h : a * b < 2 ^ N) : EG (Nat.gcd a b) N 0 a b := ⟨rfl, fun _ => h, fun z => absurd z (by decide)⟩
theorem EG.step {g N i a b : Nat} (h : EG g N i a b) (hb : 0 < b) (hi : i ≤ N) : EG g N (i + 1) b (a % b) := by
  obtain ⟨h1, h2, h3⟩ := h
  have hlt : a % b < b := Nat.mod_lt _ hb
  refine ⟨?_, fun z => absurd z (by omega), fun _ => ⟨hlt, ?_⟩⟩
  · rw [← h1, Nat.gcd_comm a b, Nat.gcd_rec b a, Nat.gcd_comm]
  · by_cases h0 : i = 0
    · subst h0
      have e := h2 rfl
      rw [show N + 1 - (0 + 1) = N by omega]
      refine Nat.lt_of_le_of_lt ?_ e
      rw [Nat.mul_comm a b]
      exact Nat.mul_le_mul_left _ (Nat.mod_le _ _)
    · obtain ⟨hba, hp⟩ := h3 (by omega)
      have e1 : N + 1 - i = (N + 1 - (i + 1)) + 1 := by omega
      rw [e1, Nat.pow_succ] at hp
      have hd := Nat.div_add_mod a b
      have hq : 1 ≤ a / b := Nat.div_pos (Nat.le_of_lt hba) hb
      have ha : b + a % b ≤ a := by
        have : b * 1 ≤ b * (a / b) := Nat.mul_le_mul_left _ hq
        omega
      have : b * (a % b) * 2 ≤ a * b := by
        have h5 : b * (a % b) + b * (a % b) ≤ b * (b + a % b) := by
          rw [Nat.mul_add]
          exact Nat.add_le_add_right (Nat.mul_le_mul_left _ (Nat.le_of_lt hlt)) _
        have h6 : b * (b + a % b) ≤ b * a := Nat.mul_le_mul_left _ ha
        rw [Nat.mul_comm a b]
        omega
      omega
theorem EG.zero {g N i a : Nat} (h : EG g N i a 0) : a = g := by
  have := h.1
  rwa [Nat.gcd_zero_right] at this
theorem EG.last {g N a b : Nat} (h : EG g N (N + 1) a b) : b = 0 := by
  obtain ⟨h1, h2⟩ := h.2.2 (by omega)
  rw [show N + 1 - (N + 1) = 0 by omega, Nat.pow_zero] at h2
  cases b with
  | zero => rfl
  | succ b =>
    have : 1 * 1 ≤ a * (b + 1) := Nat.mul_le_mul (by omega) (by omega)
    omega
end Cs
set_option maxHeartbeats 4000000
namespace Cs
open PySem PySem.Spec PyProof.Rows L2
/-! ### operators at any size -/
def CDivA (_ j : Int) : Prop := j ≠ 0 ∧ j.natAbs < 2 ^ 9000
section
variable {X : Cx}
theorem op_fdivA : OpR X (binaryOp .FloorDiv) (rI CDivA fun i j => .int (i.fdiv j)) := opI fun _ _ _ _ _ _ _ hc q =>
  floordiv_int hc.1 q (.inl (PyProof.noPylong_of_log2 (PySem.Flt.log2_lt_of (by decide) hc.2)))
theorem op_mulA : OpR X (binaryOp .Mult) (rI IntMulOk fun i j => .int (i * j)) := opI fun _ _ _ _ _ _ _ hc q => mul_int q hc
end
theorem mulL {i j : Int} (h : i.natAbs < 2 ^ 64) : IntMulOk i j := CMul.ok (.inl (by omega))
theorem mulR {i j : Int} (h : j.natAbs < 2 ^ 64) : IntMulOk i j := CMul.ok (.inr (by omega))
theorem mulB {i j : Int} {a : Nat} (hi : i.natAbs < 2 ^ a) (hj : j.natAbs < 2 ^ a) (h0 : 0 < a) (h : a ≤ 500000) : IntMulOk i j := (wide_mul hi hj h0 h0 (by omega)).ok
/-! ### a def that may be called -/
def Cal (P : Program) (w : World) (K : PySem.W.Frag) (mg : Str → Option Value) (base : Heap) (k : Nat) (x : Str) (ps : List Str) (sp : Sp) : Prop :=
  ∃ (f : Addr) (fd : FuncData), FnOk P w K mg base CX0 k f fd ps sp ∧ mg x = some (.ref f) ∧ PySem.W.keepIn K (.ref f) = true ∧ Binds K fd ps []
/-- a def of the text, with its place and how it binds -/
def FunG (K : PySem.W.Frag) (mg : Str → Option Value) (x : Str) (st : Stmt) (ps : List Str) : Prop :=
  ∃ (f : Addr) (fd : FuncData), Fun K x x st f fd ∧ mg x = some (.ref f) ∧ Binds K fd ps []
section
variable {P : Program} {w : World} {K : PySem.W.Frag} {mg : Str → Option Value} {base : Heap} {k j : Nat} {x : Str} {ps : List Str} {sp sp' : Sp} {st : Stmt}
theorem Cal.of (F : FunG K mg x st ps) (h : ∀ {f : Addr} {fd : FuncData}, Fun K x x st f fd → FnOk P w K mg base CX0 k f fd ps sp) : Cal P w K mg base k x ps sp := by
  obtain ⟨f, fd, F, g, b⟩ := F
  exact ⟨f, fd, h F, g, F.kp, b⟩
theorem Cal.mono (c : Cal P w K mg base j x ps sp) (h : j ≤ k) : Cal P w K mg base k x ps sp := by
  obtain ⟨f, fd, F, g⟩ := c
  exact ⟨f, fd, F.mono h, g⟩
theorem Cal.imp (c : Cal P w K mg base k x ps sp) (h : ∀ vs H Q E, sp' vs H Q E → sp vs H Q E) : Cal P w K mg base k x ps sp' := by
  obtain ⟨f, fd, F, g⟩ := c
  exact ⟨f, fd, F.imp h, g⟩
theorem FunG.of {f : Addr} {fd : FuncData} (F : Fun K x x st f fd) (g : mg x = some (.ref f)) (b : Binds K fd ps []) : FunG K mg x st ps := ⟨f, fd, F, g, b⟩
end
section
variable {X : Cx} {k : Nat} {x : Str} {ps : List Str} {sp : Sp} {p pos : Pos} {e : Expr} {es : List Expr} {t : TA}
theorem pe_cal (c : Cal X.prog X.w X.K X.mg X.base k x ps sp) (hr : Room k X.A) (hg : Gl X x) (ha : PA X (e :: es) t) (hdb : (x == ("__debug__" : Str)) = false := by decide)
    (he : starEach (e :: es) X.env = (false, eval e X.env) :: starEach es X.env := by rfl) (hpl : (backTo pos (starEach es X.env)).any (·.1) = false := by rfl) :
    PE X (.Call (.Name x p) (e :: es) [] pos) (tCall sp [] E0 t) := by
  obtain ⟨f, fd, F, g, kp, b⟩ := c
  exact pe_call F hr hg g kp b .nil pass0 ha hdb he hpl
end
/-! ### heaps -/
/-- all but d is as it was -/
def But (d : Addr) (H H' : Hp) : Prop := ∀ b o, b ≠ d → H b = some o → H' b = some o
theorem But.refl {d : Addr} {H : Hp} : But d H H := fun _ _ _ h => h
theorem But.trans {d : Addr} {H H1 H2 : Hp} (a : But d H H1) (b : But d H1 H2) : But d H H2 := fun c o n h => b c o n (a c o n h)
theorem But.upd {d : Addr} {H : Hp} {o : HO} : But d H (upd H d o) := fun b o' n h => by rw [upd_ne n]; exact h
theorem Same.but {d : Addr} {H H' : Hp} (s : Same H H') : But d H H' := fun b o _ h => s b o h
theorem Same.new {H : Hp} {p : Addr} {o : HO} (h : H p = none) : Same H (upd H p o) := fun b x e => by
  rw [upd_ne (ne_of_none e h)]
  exact e
theorem But.seq {K : PySem.W.Frag} {d a : Addr} {xs : List V} {H H' : Hp} (b : But d H H') (n : a ≠ d) (h : SqL K H a xs) : SqL K H' a xs := by
  rcases h with (h | ⟨o, h⟩) | h
  · exact .inl (.inl (b _ _ n h))
  · exact .inl (.inr ⟨o, b _ _ n h⟩)
  · exact .inr h
theorem But.tup {d a : Addr} {xs : List V} {H H' : Hp} {ys : List V} (b : But d H H') (hd : H d = some (.lst ys)) (h : H a = some (.tup xs)) : H' a = some (.tup xs) :=
  b a _ (ne_of h hd (fun z => nomatch z)) h
/-! ### the deck: the script's list, the next cell, what is left of a cell, the state -/
def DeckO (l : Addr) (b c e : Int) : HO := .lst [.ref l, .int b, .int c, .int e]
def Deck (K : PySem.W.Frag) (H : Hp) (d : Addr) : Prop := ∃ (l : Addr) (ns : List Int) (b c e : Int), H d = some (DeckO l b c e) ∧ SqL K H l (ns.map V.int) ∧ l ≠ d ∧ 0 ≤ b
theorem Deck.same {K : PySem.W.Frag} {H H' : Hp} {d : Addr} (s : Same H H') (h : Deck K H d) : Deck K H' d := by
  obtain ⟨l, ns, b, c, e, h1, h2, h3, h4⟩ := h
  exact ⟨l, ns, b, c, e, s _ _ h1, s.seq h2, h3, h4⟩
theorem Deck.lst {K : PySem.W.Frag} {H : Hp} {d : Addr} (h : Deck K H d) : ∃ ys, H d = some (.lst ys) := by
  obtain ⟨l, ns, b, c, e, h1, h2, h3, h4⟩ := h
  exact ⟨_, h1⟩
theorem But.tupD {K : PySem.W.Frag} {d a : Addr} {xs : List V} {H H' : Hp} (b : But d H H') (hd : Deck K H d) (h : H a = some (.tup xs)) : H' a = some (.tup xs) := by
  obtain ⟨ys, e⟩ := hd.lst
  exact b.tup e h
theorem deck_of {K : PySem.W.Frag} {H H1 : Hp} {d l : Addr} {ns : List Int} {b c e : Int} (hl : SqL K H l (ns.map V.int)) (ne : l ≠ d) (hb : But d H H1) (h : H1 d = some (DeckO l b c e)) (b0 : 0 ≤ b) : Deck K H1 d :=
  ⟨l, ns, b, c, e, h, hb.seq ne hl, ne, b0⟩
theorem cell_at {ns : List Int} {b : Int} (b0 : 0 ≤ b) (h : b < (ns.length : Int)) : ∃ z, atI (ns.map V.int) b = some (.int z) := by
  obtain ⟨j, rfl⟩ : ∃ j : Nat, b = (j : Int) := ⟨b.toNat, by omega⟩
  have hj : j < ns.length := by omega
  exact ⟨ns[j], atI_nat (by rw [List.getElem?_map, List.getElem?_eq_getElem hj]; rfl)⟩
def spDeck (K : PySem.W.Frag) : Sp := fun vs H Q _ => ∃ (a : Addr) (ns : List Int), vs = [.ref a] ∧ SqL K H a (ns.map V.int) ∧ ∀ d H', Same H H' → H d = none → Deck K H' d → Q (.ref d) H'
def spDraw (K : PySem.W.Frag) : Sp := fun vs H Q _ => ∃ (d : Addr) (m : Int), vs = [.ref d, .int m] ∧ 0 < m ∧ m.natAbs < 2 ^ 8000 ∧ Deck K H d ∧ ∀ v H', 0 ≤ v → v < m → But d H H' → Deck K H' d → Q (.int v) H'
/-! ### fractions -/
def nd (r : Rat) : HO := .tup [.int r.num, .int (r.den : Int)]
def spFrac : Sp := fun vs H Q _ => ∃ p q : Int, vs = [.int p, .int q] ∧ q ≠ 0 ∧ q.natAbs < 2 ^ 9000 ∧ ∀ t H', Same H H' → H t = none → H' t = some (nd (Rat.divInt p q)) → Q (.ref t) H'
def spGcd : Sp := fun vs H Q _ => ∃ a b : Nat, vs = [.int a, .int b] ∧ a < 2 ^ 2400 ∧ b < 2 ^ 2400 ∧ Q (.int (Nat.gcd a b : Nat)) H
def spRatio : Sp := fun vs H Q _ => ∃ p q : Int, vs = [.int p, .int q] ∧ q ≠ 0 ∧ p.natAbs < 2 ^ 2400 ∧ q.natAbs < 2 ^ 2400 ∧ ∀ t H', Same H H' → H t = none → H' t = some (nd (Rat.divInt p q)) → Q (.ref t) H'
def spOp (f : Rat → Rat → Rat) (ok : Rat → Rat → Prop) : Sp := fun vs H Q _ => ∃ (a b : Addr) (r s : Rat), vs = [.ref a, .ref b] ∧ H a = some (nd r) ∧ H b = some (nd s) ∧ Sz 1000 r ∧ Sz 1000 s ∧ ok r s ∧ ∀ t H', Same H H' → H t = none → H' t = some (nd (f r s)) → Q (.ref t) H'
def spCmp (f : Rat → Rat → V) : Sp := fun vs H Q _ => ∃ (a b : Addr) (r s : Rat), vs = [.ref a, .ref b] ∧ H a = some (nd r) ∧ H b = some (nd s) ∧ Sz 1000 r ∧ Sz 1000 s ∧ ∀ H', Same H H' → Q (f r s) H'
/-- -1, 0 or 1 -/
def cmpR (r s : Rat) : Int := (r.num * s.den - s.num * r.den).sign
theorem cmpR_eq {r s : Rat} (h : cmpR r s = 0) : r = s := by
  have e : r.num * s.den = s.num * r.den := by
    have := Int.sign_eq_zero_iff_zero.mp h
    omega
  have h1 : ¬ r < s := fun z => by have := (Rat.lt_iff r s).mp z; omega
  have h2 : ¬ s < r := fun z => by have := (Rat.lt_iff s r).mp z; omega
  grind
theorem cmpR_neg (r s : Rat) : cmpR s r = -cmpR r s := by
  unfold cmpR
  rw [← Int.sign_neg]
  congr 1
  omega
theorem cmpR_lt {r s : Rat} : cmpR r s = -1 ↔ r < s := by
  unfold cmpR
  rw [Rat.lt_iff, Int.sign_eq_neg_one_iff_neg]
  omega
theorem cmpR_gt {r s : Rat} : cmpR r s = 1 ↔ s < r := by
  unfold cmpR
  rw [Rat.lt_iff, Int.sign_eq_one_iff_pos]
  omega
theorem cmpR_three (r s : Rat) : cmpR r s = -1 ∨ cmpR r s = 0 ∨ cmpR r s = 1 := by
  unfold cmpR
  rcases Int.lt_trichotomy (r.num * s.den - s.num * r.den) 0 with h | h | h
  · exact .inl (Int.sign_eq_neg_one_iff_neg.mpr h)
  · rw [h]; exact .inr (.inl rfl)
  · exact .inr (.inr (Int.sign_eq_one_iff_pos.mpr h))
theorem cmpR_add (r s t : Rat) : cmpR (r + t) (s + t) = cmpR r s := by
  rcases cmpR_three r s with h | h | h
  · rw [h, cmpR_lt]
    have := cmpR_lt.mp h
    grind
  · rw [cmpR_eq h]
    unfold cmpR
    rw [Int.sub_self, Int.sub_self]
  · rw [h, cmpR_gt]
    have := cmpR_gt.mp h
    grind
theorem sign_le (d : Int) : d.sign ≤ 0 ↔ ¬ 0 < d := by
  rcases Int.lt_trichotomy d 0 with h | h | h
  · rw [Int.sign_eq_neg_one_iff_neg.mpr h]; omega
  · subst h; decide
  · rw [Int.sign_eq_one_iff_pos.mpr h]; omega
theorem sign_if (d : Int) : (if decide (0 < d) = true then (1 : Int) else 0) - (if decide (d < 0) = true then 1 else 0) = d.sign := by
  rcases Int.lt_trichotomy d 0 with h | h | h
  · rw [Int.sign_eq_neg_one_iff_neg.mpr h, decide_eq_true h, decide_eq_false (by omega)]; rfl
  · subst h; rfl
  · rw [Int.sign_eq_one_iff_pos.mpr h, decide_eq_true h, decide_eq_false (by omega)]; rfl
theorem sign_if2 (d : Int) : (if decide (d < 0) = true then (-1 : Int) else if decide (0 < d) = true then 1 else 0) = d.sign := by
  rcases Int.lt_trichotomy d 0 with h | h | h
  · rw [Int.sign_eq_neg_one_iff_neg.mpr h, decide_eq_true h]; rfl
  · subst h; rfl
  · rw [Int.sign_eq_one_iff_pos.mpr h, decide_eq_true h, decide_eq_false (by omega)]; rfl
/-! ### isinstance -/
theorem kit_ii : kitB "int" "int" = some true := by decide +kernel
theorem kit_ib : kitB "int" "bool" = some false := by decide +kernel
theorem kit_it : kitB "int" "tuple" = some false := by decide +kernel
theorem kit_bi : kitB "bool" "int" = some true := by decide +kernel
theorem kit_bb : kitB "bool" "bool" = some true := by decide +kernel
theorem kit_bt : kitB "bool" "tuple" = some false := by decide +kernel
theorem kit_tt : kitB "tuple" "tuple" = some true := by decide +kernel
/-- same as the law's own: ints, truths, fractions -/
def spSame0 : Sp := fun vs H Q _ => (∃ i j : Int, vs = [.int i, .int j] ∧ Q (.bl (decide (i = j))) H) ∨ (∃ a b : Bool, vs = [.bl a, .bl b] ∧ Q (.bl (decide (a = b))) H)
def spSame : Sp := fun vs H Q E => spSame0 vs H Q E ∨ ∃ (a b : Addr) (r s : Rat), vs = [.ref a, .ref b] ∧ H a = some (nd r) ∧ H b = some (nd s) ∧ Q (.bl (decide (r = s))) H
def spNumber (K : PySem.W.Frag) : Sp := fun vs H Q _ => ∃ d : Addr, vs = [.ref d] ∧ Deck K H d ∧ ∀ (t : Addr) (r : Rat) (H' : Hp), But d H H' → Deck K H' d → Sz 42 r → H' t = some (nd r) → Q (.ref t) H'
def spSmaller : Sp := fun vs H Q _ => ∃ (a b : Addr) (r s : Rat), vs = [.ref a, .ref b] ∧ H a = some (nd r) ∧ H b = some (nd s) ∧ Sz 1000 r ∧ Sz 1000 s ∧ ∀ H', Same H H' → Q (if cmpR r s ≤ 0 then .ref a else .ref b) H'
def spGreater : Sp := fun vs H Q _ => ∃ (a b : Addr) (r s : Rat), vs = [.ref a, .ref b] ∧ H a = some (nd r) ∧ H b = some (nd s) ∧ Sz 1000 r ∧ Sz 1000 s ∧ ∀ H', Same H H' → Q (if 0 ≤ cmpR r s then .ref a else .ref b) H'
def spWhole : Sp := fun vs H Q _ => ∃ (a : Addr) (r : Rat), vs = [.ref a] ∧ H a = some (nd r) ∧ Sz 1000 r ∧ Q (.int (r.num / (r.den : Int))) H
def spIsInt : Sp := fun vs H Q _ => ∃ i : Int, vs = [.int i] ∧ Q (.bl true) H
theorem nd_int (n : Int) : nd (n : Rat) = .tup [.int n, .int 1] := rfl
theorem nd_inj {r s : Rat} (h1 : r.num = s.num) (h2 : (r.den : Int) = s.den) : r = s := Rat.ext h1 (by omega)
theorem Sz.int {k : Nat} {n : Int} (h : n.natAbs < 2 ^ k) (hk : 0 < k) : Sz k (n : Rat) := ⟨h, Nat.one_lt_two_pow (by omega)⟩
theorem Sz.nn {n : Nat} {r : Rat} (h : Sz n r) : r.num.natAbs < 2 ^ n := h.1
theorem Sz.dd {n : Nat} {r : Rat} (h : Sz n r) : ((r.den : Int)).natAbs < 2 ^ n := by rw [Int.natAbs_natCast]; exact h.2
theorem mulZ {i j : Int} (hi : i.natAbs < 2 ^ 1000) (hj : j.natAbs < 2 ^ 1000) : IntMulOk i j := mulB hi hj (by decide) (by decide)
theorem lt9 {i : Int} {a : Nat} (h : i.natAbs < 2 ^ a) (k : a ≤ 9000) : i.natAbs < 2 ^ 9000 := Nat.lt_of_lt_of_le h (Nat.pow_le_pow_right (by decide) k)
theorem fdivI {i j : Int} {V' : Int → V} : (fun i j => V' (i.fdiv j)) i j = V' (i.fdiv j) := rfl
theorem sz_add {n : Nat} {r s : Rat} (h : Sz n r) (g : Sz n s) : Sz (n + n + 1) (r + s) := by
  rw [← add_div]
  exact sz_div (Int.mul_ne_zero (den_ne r) (den_ne s)) (add_lt (pow_lt h.nn g.dd) (pow_lt g.nn h.dd)) (Nat.lt_trans (pow_lt h.dd g.dd) (Nat.pow_lt_pow_right (by decide) (by omega)))
theorem sz_mul {n : Nat} {r s : Rat} (h : Sz n r) (g : Sz n s) : Sz (n + n) (r * s) := by
  rw [← mul_div]
  exact sz_div (Int.mul_ne_zero (den_ne r) (den_ne s)) (pow_lt h.nn g.nn) (pow_lt h.dd g.dd)
theorem sz_sub {n : Nat} {r s : Rat} (h : Sz n r) (g : Sz n s) : Sz (n + n + 1) (r - s) := by
  rw [← sub_div]
  exact sz_div (Int.mul_ne_zero (den_ne r) (den_ne s)) (sub_lt (pow_lt h.nn g.dd) (pow_lt g.nn h.dd)) (Nat.lt_trans (pow_lt h.dd g.dd) (Nat.pow_lt_pow_right (by decide) (by omega)))
theorem sz_quo {n : Nat} {r s : Rat} (h : Sz n r) (g : Sz n s) (hs : s.num ≠ 0) : Sz (n + n) (r / s) := by
  rw [← div_div]
  exact sz_div (Int.mul_ne_zero (den_ne r) hs) (pow_lt h.nn g.dd) (pow_lt h.dd g.nn)
theorem sz_zero {n : Nat} (h : 0 < n) : Sz n 0 := ⟨Nat.two_pow_pos n, Nat.one_lt_two_pow (by omega)⟩
def spLaw (K : PySem.W.Frag) : Sp := fun vs H Q _ => ∃ (a : Addr) (ns : List Int), vs = [.ref a] ∧ SqL K H a (ns.map V.int) ∧ ns.length ≤ 63 ∧ ∀ H', Q (.bl true) H'
/-! ### what the top has written -/
section
variable {K : PySem.W.Frag} {h : Heap} {mg : Str → Option Value}
theorem FunG.mk {x : Str} {st : Stmt} {ps : List Str} {f : Addr} {od an : Option Addr} {sl : Array (Option Value)} {oc kV dc pm cd ct : Value}
    (hb : ∀ (kV doc pm : Value) (an : Option Addr) (cdv ct : Value) (us : List Value), us.length = ps.length → bindArgs (PySem.W.fnOf x x (defArgs st) (defBody st) (defScope st) .none kV doc pm an cdv ct) ⟨us, []⟩ = pure (ps.zip us))
    (X : K.In h) (G : h.Ns mainGlobals mg)
    (a : PySem.W.nsIn K mainGlobals x = some (some (.ref f))) (l : K.lookup f = some ⟨oc, od, .func (PySem.W.fnOf x x (defArgs st) (defBody st) (defScope st) .none kV dc pm an cd ct), sl⟩) (c : PySem.W.codeIn K cd x = true) (k : PySem.W.keepIn K (.ref f) = true) : FunG K mg x st ps := by
  have F := fun_mk (st := st) l c k
  exact ⟨f, _, F, PySem.W.mg_of X G a, F.binds hb⟩
/-- a def of two parameters, the second one with an int as its default, called with both -/
def FunD2 (K : PySem.W.Frag) (mg : Str → Option Value) (x : Str) (st : Stmt) (ps : List Str) : Prop :=
  ∃ (f : Addr) (fd : FuncData), FunD K x x (defArgs st) (defBody st) (defScope st) [.int 1] [] f fd ∧ mg x = some (.ref f) ∧ PySem.W.keepIn K (.ref f) = true ∧ Binds K fd ps []
theorem FunD2.mk {x p q : Str} {st : Stmt} {f T : Addr} {od an dT : Option Addr} {sl slT : Array (Option Value)} {oc kV dc pm cd ct cT : Value} {nT : Nat} {tk : Tok}
    (hb : ∀ (T : Addr) (kV doc pm : Value) (an : Option Addr) (cdv ct : Value) (us its : List Value), us.length = 2 → its.length = ([V.int 1]).length →
      ∃ k, bindArgs (PySem.W.fnOf x x (defArgs st) (defBody st) (defScope st) (.ref T) kV doc pm an cdv ct) ⟨us, []⟩ = seqItems? (.ref T) >>= k ∧ k (some its.toArray) = pure ([p, q].zip (us ++ its.drop 1)))
    (X : K.In h) (G : h.Ns mainGlobals mg)
    (a : PySem.W.nsIn K mainGlobals x = some (some (.ref f))) (l : K.lookup f = some ⟨oc, od, .func (PySem.W.fnOf x x (defArgs st) (defBody st) (defScope st) (.ref T) kV dc pm an cd ct), sl⟩) (c : PySem.W.codeIn K cd x = true) (k : PySem.W.keepIn K (.ref f) = true)
    (lT : K.lookup T = some ⟨cT, dT, .seq #[.int 1 tk] nT, slT⟩) : FunD2 K mg x st [p, q] := by
  have F : FunD K x x (defArgs st) (defBody st) (defScope st) [.int 1] [] f _ := ⟨⟨oc, od, .ref T, kV, dc, pm, an, cd, ct, sl, rfl, l, c, .inr ⟨by simp, T, _, [.int 1 tk], nT, rfl, lT, rfl, .cons ⟨tk, rfl⟩ .nil⟩, .inl rfl⟩, k⟩
  obtain ⟨ds, hv, hB⟩ := F.binds1 (ps := [p, q]) 2 1 (by simp) rfl hb
  cases hv
  exact ⟨f, _, F, PySem.W.mg_of X G a, k, hB⟩
end
end Cs
set_option maxHeartbeats 4000000
namespace Cs
open PySem PySem.Spec PyProof.Rows L2
/-! ### heaps in which the things that change are hidden -/
def hid (S : List Addr) (H : Hp) : Hp := fun a => if a ∈ S then none else H a
section
variable {S T : List Addr} {H H' : Hp} {a p : Addr} {o : HO}
theorem hid_of (h : a ∉ S) : hid S H a = H a := by unfold hid; rw [if_neg h]
theorem hid_sub : Same (hid S H) H := fun b o h => by
  unfold hid at h
  split at h
  · cases h
  · exact h
theorem hid_same (e : Same H H') : Same (hid S H) (hid S H') := fun b o h => by
  unfold hid at h ⊢
  split at h
  · cases h
  · rename_i q; rw [if_neg q]; exact e _ _ h
theorem hid_less (h : ∀ a, a ∈ S → a ∈ T) : Same (hid T H) (hid S H) := fun b o q => by
  unfold hid at q ⊢
  split at q
  · cases q
  · rename_i z; rw [if_neg (fun y => z (h _ y))]; exact q
theorem hid_upd (h : a ∈ S) : hid S (upd H a o) = hid S H := by
  funext b
  unfold hid
  split
  · rfl
  · rename_i q; exact upd_ne (fun z => q (z ▸ h))
end
/-- all but M is as it was -/
def Bt (M : List Addr) (H H' : Hp) : Prop := ∀ b o, b ∉ M → H b = some o → H' b = some o
theorem Bt.refl {M : List Addr} {H : Hp} : Bt M H H := fun _ _ _ h => h
theorem Bt.trans {M : List Addr} {H H1 H2 : Hp} (a : Bt M H H1) (b : Bt M H1 H2) : Bt M H H2 := fun c o n h => b c o n (a c o n h)
theorem Bt.of {M : List Addr} {H H' : Hp} (e : Same H H') : Bt M H H' := fun b o _ h => e b o h
theorem Bt.same {H H' : Hp} (e : Bt [] H H') : Same H H' := fun b o h => e b o (by simp) h
theorem Bt.mono {M N : List Addr} {H H' : Hp} (e : Bt M H H') (h : ∀ a, a ∈ M → a ∈ N) : Bt N H H' := fun b o n q => e b o (fun z => n (h _ z)) q
/-- news are the addresses that are hidden from now on: they were free -/
theorem Bt.hid {M S N : List Addr} {H H' : Hp} (e : Bt M H H') (h : ∀ a, a ∈ M → a ∈ S) (hN : ∀ a, a ∈ N → a ∈ S ∨ H a = none) : Same (hid S H) (hid (N ++ S) H') := fun b o q => by
  have q' := hid_sub _ _ q
  have n : b ∉ S := fun z => by unfold Cs.hid at q; rw [if_pos z] at q; cases q
  have n2 : b ∉ N ++ S := fun z => by
    rcases List.mem_append.mp z with z | z
    · rcases hN b z with y | y
      · exact n y
      · rw [y] at q'; cases q'
    · exact n z
  rw [hid_of n2]
  exact e b o (fun z => n (h _ z)) q'
/-! ### what a value is, by a Lean value -/
structure Ty (α : Type) where
  r : Hp → V → α → Prop
  mono : ∀ {H H' : Hp} {v : V} {x : α}, Same H H' → r H v x → r H' v x
/-- what a slot holds -/
structure SF where
  p : Hp → V → Prop
  mono : ∀ {H H' : Hp} {v : V}, Same H H' → p H v → p H' v
/-- what stands in a cell -/
structure CF where
  p : Hp → HO → Prop
  mono : ∀ {H H' : Hp} {o : HO}, Same H H' → p H o → p H' o
/-- a thing that changes: the addresses that are its own, and what is true of them (F: what can be read otherwise) -/
structure RS where
  fp : List Addr
  p : Hp → Hp → Prop
  mono : ∀ {F F' H : Hp}, Same F F' → p F H → p F' H
  loc : ∀ {F H H' : Hp}, (∀ a, a ∈ fp → H' a = H a) → p F H → p F H'
def cell (a : Addr) (φ : CF) : RS := ⟨[a], fun F H => ∃ o, H a = some o ∧ φ.p F o, fun e ⟨o, h, g⟩ => ⟨o, h, φ.mono e g⟩, fun e ⟨o, h, g⟩ => ⟨o, by rw [e a (List.mem_cons_self ..)]; exact h, g⟩⟩
def Ty.is {α : Type} (t : Ty α) (x : α) : SF := ⟨fun H v => t.r H v x, fun e h => t.mono e h⟩
/-- what is known of the heap -/
structure FF where
  p : Hp → Prop
  mono : ∀ {H H' : Hp}, Same H H' → p H → p H'
def fps (L : List RS) : List Addr := L.flatMap RS.fp
theorem mem_fps {L : List RS} {r : RS} {a : Addr} (h : r ∈ L) (g : a ∈ r.fp) : a ∈ fps L := List.mem_flatMap.mpr ⟨r, h, g⟩
theorem of_fps {L : List RS} {a : Addr} (h : a ∈ fps L) : ∃ r, r ∈ L ∧ a ∈ r.fp := by
  obtain ⟨r, h1, h2⟩ := List.mem_flatMap.mp h
  exact ⟨r, h1, h2⟩
theorem fps_sub {A B : List RS} (h : A.Sublist B) : (fps A).Sublist (fps B) := by
  induction h with
  | slnil => exact List.Sublist.refl _
  | cons a _ ih => exact ih.trans (List.sublist_append_right _ _)
  | cons_cons a _ ih => exact List.Sublist.append (List.Sublist.refl _) ih
structure Wd where
  H0 : Hp
  M : List Addr
  S : List Addr
  L : List RS
  F : List FF
  G : List (Option SF)
structure Ok (W : Wd) (σ : L2.St) (H : Hp) : Prop where
  nod : (fps W.L).Nodup
  own : ∀ a, a ∈ fps W.L → a ∈ W.S ∧ (a ∈ W.M ∨ W.H0 a = none)
  at_ : ∀ r, r ∈ W.L → r.p (hid W.S H) H
  ms : ∀ a, a ∈ W.M → a ∈ W.S
  al : ∀ a, a ∈ W.S → H a ≠ none
  bt : Bt W.M W.H0 H
  len : σ.length = W.G.length
  facts : ∀ f, f ∈ W.F → f.p (hid W.S H)
  slots : ∀ (i : Nat) (f : SF), W.G[i]? = some (some f) → ∃ v, σ[i]? = some (some v) ∧ f.p (hid W.S H) v
/-- from H to H': the world stands, what is not hidden is kept -/
structure Go1 (W : Wd) (σ : L2.St) (H H' : Hp) : Prop where
  ok : Ok W σ H'
  up : Same (hid W.S H) (hid W.S H')
section
variable {W : Wd} {σ : L2.St} {H H' H1 H2 : Hp}
theorem Go1.refl (h : Ok W σ H) : Go1 W σ H H := ⟨h, Same.refl _⟩
theorem Go1.trans (a : Go1 W σ H H1) (b : Go1 W σ H1 H2) : Go1 W σ H H2 := ⟨b.ok, a.up.trans b.up⟩
theorem eq_of_same (e : Same H H') {a : Addr} (h : H a ≠ none) : H' a = H a := by
  cases q : H a with
  | none => exact absurd q h
  | some o => exact e _ _ q
theorem Ok.same (h : Ok W σ H) (e : Same H H') : Ok W σ H' where
  nod := h.nod
  own := h.own
  at_ := fun r m => r.mono (hid_same e) (r.loc (fun a q => eq_of_same e (h.al a (h.own a (mem_fps m q)).1)) (h.at_ r m))
  ms := h.ms
  al := fun a m => by rw [eq_of_same e (h.al a m)]; exact h.al a m
  bt := h.bt.trans (Bt.of e)
  len := h.len
  facts := fun f m => f.mono (hid_same e) (h.facts f m)
  slots := fun i f g => by
    obtain ⟨v, q, z⟩ := h.slots i f g
    exact ⟨v, q, f.mono (hid_same e) z⟩
theorem Ok.go (h : Ok W σ H) (e : Same H H') : Go1 W σ H H' := ⟨h.same e, hid_same e⟩
theorem Ok.new {p : Addr} {o : HO} (h : Ok W σ H) (n : H p = none) : Go1 W σ H (upd H p o) := h.go (Same.new n)
theorem Ok.off {p : Addr} (h : Ok W σ H) (n : H p = none) : p ∉ W.S := fun z => h.al p z n
def RsAt (C : List RS) (S : List Addr) (H : Hp) : Prop := ∀ r, r ∈ C → r.p (hid S H) H
/-- the things C change to C', at their addresses and at new ones (N) -/
theorem Ok.change {C C' R : List RS} {N : List Addr} (h : Ok W σ H) (eL : ∀ r, r ∈ W.L ↔ r ∈ C ∨ r ∈ R) (nR : ∀ r, r ∈ R → ∀ a, a ∈ r.fp → a ∉ fps C) (nodR : (fps (C' ++ R)).Nodup) (b : Bt (fps C) H H')
    (hN : ∀ a, a ∈ N → H a = none ∧ H' a ≠ none) (hC' : ∀ a, a ∈ fps C' → (a ∈ fps C ∨ a ∈ N)) (hal : ∀ a, a ∈ fps C → H' a ≠ none) (hc : RsAt C' (N ++ W.S) H') : Ok { W with S := N ++ W.S, L := C' ++ R } σ H' ∧ Same (hid W.S H) (hid (N ++ W.S) H') := by
  have hCS : ∀ a, a ∈ fps C → a ∈ W.S ∧ (a ∈ W.M ∨ W.H0 a = none) := fun a m => by
    obtain ⟨r, m1, m2⟩ := of_fps m
    exact h.own a (mem_fps ((eL r).mpr (.inl m1)) m2)
  have up : Same (hid W.S H) (hid (N ++ W.S) H') := b.hid (fun a m => (hCS a m).1) fun a m => .inr (hN a m).1
  have h0 : ∀ a, H a = none → W.H0 a = none := fun a n => by
    cases q : W.H0 a with
    | none => rfl
    | some o =>
      by_cases hm : a ∈ W.M
      · exact absurd n (h.al a (h.ms a hm))
      · rw [h.bt a o hm q] at n; cases n
  refine ⟨⟨nodR, fun a m => ?_, fun r m => ?_, fun a m => List.mem_append_right _ (h.ms a m), fun a m => ?_, fun c o n q => ?_, h.len, fun f m => f.mono up (h.facts f m), fun i f g => ?_⟩, up⟩
  · obtain ⟨r, m1, m2⟩ := of_fps m
    rcases List.mem_append.mp m1 with m1 | m1
    · rcases hC' a (mem_fps m1 m2) with q | q
      · exact ⟨List.mem_append_right _ (hCS a q).1, (hCS a q).2⟩
      · exact ⟨List.mem_append_left _ q, .inr (h0 a (hN a q).1)⟩
    · have := h.own a (mem_fps ((eL r).mpr (.inr m1)) m2)
      exact ⟨List.mem_append_right _ this.1, this.2⟩
  · rcases List.mem_append.mp m with m | m
    · exact hc r m
    · refine r.mono up (r.loc (fun a q => ?_) (h.at_ r ((eL r).mpr (.inr m))))
      have al := h.al a (h.own a (mem_fps ((eL r).mpr (.inr m)) q)).1
      cases e : H a with
      | none => exact absurd e al
      | some o => exact b a o (nR r m a q) e
  · rcases List.mem_append.mp m with m | m
    · exact (hN a m).2
    · by_cases q : a ∈ fps C
      · exact hal a q
      · intro z
        cases e : H a with
        | none => exact h.al a m e
        | some o => rw [b a o q e] at z; cases z
  · have q1 := h.bt c o n q
    by_cases hin : c ∈ fps C
    · rcases (hCS c hin).2 with z | z
      · exact absurd z n
      · have q : W.H0 c = some o := q
        rw [z] at q; cases q
    · exact b c o hin q1
  · obtain ⟨v, q, z⟩ := h.slots i f g
    exact ⟨v, q, f.mono up z⟩
end
theorem nodup_app {A B : List RS} : (fps (A ++ B)).Nodup ↔ (fps A).Nodup ∧ (fps B).Nodup ∧ ∀ a, a ∈ fps A → a ∉ fps B := by
  unfold fps
  rw [List.flatMap_append, List.nodup_append]
  exact ⟨fun ⟨h1, h2, h3⟩ => ⟨h1, h2, fun a m1 m2 => h3 a m1 a m2 rfl⟩, fun ⟨h1, h2, h3⟩ => ⟨h1, h2, fun a m1 b m2 e => h3 a m1 (e ▸ m2)⟩⟩
section
variable {W : Wd} {σ : L2.St} {H H' : Hp}
/-- the first things of the world change -/
theorem Ok.change1 {C C' R : List RS} {N : List Addr} (h : Ok W σ H) (eL : W.L = C ++ R) (b : Bt (fps C) H H') (hN : ∀ a, a ∈ N → H a = none ∧ H' a ≠ none) (nodC : (fps C').Nodup) (hC' : ∀ a, a ∈ fps C' → (a ∈ fps C ∨ a ∈ N)) (hal : ∀ a, a ∈ fps C → H' a ≠ none)
    (hc : RsAt C' (N ++ W.S) H') : Ok { W with S := N ++ W.S, L := C' ++ R } σ H' ∧ Same (hid W.S H) (hid (N ++ W.S) H') := by
  have nd := h.nod
  rw [eL] at nd
  obtain ⟨n1, n2, n3⟩ := nodup_app.mp nd
  refine h.change (fun r => by rw [eL, List.mem_append]) (fun r m a q z => n3 a z (mem_fps m q)) (nodup_app.mpr ⟨nodC, n2, fun a m z => ?_⟩) b hN hC' hal hc
  rcases hC' a m with q | q
  · exact n3 a q z
  · have := h.al a (h.own a (by rw [eL]; obtain ⟨r, m1, m2⟩ := of_fps z; exact mem_fps (List.mem_append_right _ m1) m2)).1
    exact this (hN a q).1
/-- a callee changed the things C, and left what they promise -/
theorem Ok.after {C : List RS} (h : Ok W σ H) (hC : ∀ r, r ∈ C → r ∈ W.L) (b : Bt (fps C) H H') (hal : ∀ a, a ∈ fps C → H' a ≠ none) (hc : RsAt C W.S H') : Go1 W σ H H' := by
  have hCS : ∀ a, a ∈ fps C → a ∈ W.S ∧ (a ∈ W.M ∨ W.H0 a = none) := fun a m => by
    obtain ⟨r, m1, m2⟩ := of_fps m
    exact h.own a (mem_fps (hC r m1) m2)
  have up : Same (hid W.S H) (hid W.S H') := b.hid (N := []) (fun a m => (hCS a m).1) (fun a m => nomatch m)
  have disj : ∀ (L : List RS), (fps L).Nodup → ∀ r r' a, r ∈ L → r' ∈ L → a ∈ r.fp → a ∈ r'.fp → r = r' := by
    intro L
    induction L with
    | nil => intro _ r r' a m; cases m
    | cons x L ih =>
      intro nd r r' a m m' q q'
      have nd' : (fps ([x] ++ L)).Nodup := nd
      obtain ⟨_, n2, n3⟩ := nodup_app.mp nd'
      rcases List.mem_cons.mp m with m | m <;> rcases List.mem_cons.mp m' with m' | m'
      · rw [m, m']
      · exact absurd (mem_fps m' q') (n3 a (mem_fps (List.mem_cons_self ..) (m ▸ q)))
      · exact absurd (mem_fps m q) (n3 a (mem_fps (List.mem_cons_self ..) (m' ▸ q')))
      · exact ih n2 r r' a m m' q q'
  refine ⟨⟨h.nod, h.own, fun r m => ?_, h.ms, fun a m => ?_, fun c o n q => ?_, h.len, fun f m => f.mono up (h.facts f m), fun i f g => ?_⟩, up⟩
  · by_cases hin : r ∈ C
    · exact hc r hin
    · refine r.mono up (r.loc (fun a q => ?_) (h.at_ r m))
      have al := h.al a (h.own a (mem_fps m q)).1
      have off : a ∉ fps C := fun z => by
        obtain ⟨r', m1, m2⟩ := of_fps z
        exact hin (disj _ h.nod r r' a m (hC r' m1) q m2 ▸ m1)
      cases e : H a with
      | none => exact absurd e al
      | some o => exact b a o off e
  · by_cases q : a ∈ fps C
    · exact hal a q
    · intro z
      cases e : H a with
      | none => exact h.al a m e
      | some o => rw [b a o q e] at z; cases z
  · have q1 := h.bt c o n q
    by_cases hin : c ∈ fps C
    · rcases (hCS c hin).2 with z | z
      · exact absurd z n
      · have q : W.H0 c = some o := q
        rw [z] at q; cases q
    · exact b c o hin q1
  · obtain ⟨v, q, z⟩ := h.slots i f g
    exact ⟨v, q, f.mono up z⟩
/-- the things in another order -/
theorem Ok.perm {L' : List RS} (h : Ok W σ H) (p : W.L.Perm L') : Ok { W with L := L' } σ H := by
  have pf : (fps W.L).Perm (fps L') := p.flatMap_right RS.fp
  exact ⟨pf.nodup_iff.mp h.nod, fun a m => h.own a (pf.mem_iff.mpr m), fun r m => h.at_ r (p.mem_iff.mpr m), h.ms, h.al, h.bt, h.len, h.facts, h.slots⟩
/-- a cell is written -/
theorem Ok.write {a : Addr} {φ ψ : CF} {R : List RS} {o : HO} (h : Ok W σ H) (e : W.L = cell a φ :: R) (hp : ψ.p (hid W.S H) o) : Go1 { W with L := cell a ψ :: R } σ H (upd H a o) := by
  have hS : a ∈ W.S := (h.own a (by rw [e]; exact mem_fps (List.mem_cons_self ..) (List.mem_cons_self ..))).1
  have eq : hid W.S (upd H a o) = hid W.S H := hid_upd hS
  have fa : fps [cell a φ] = [a] := rfl
  obtain ⟨o2, _⟩ := h.change1 (C := [cell a φ]) (C' := [cell a ψ]) (R := R) (N := []) (H' := upd H a o) e (fun b u n q => by rw [upd_ne (fun z => n (by rw [fa, z]; exact List.mem_cons_self ..))]; exact q) (fun b m => nomatch m) (by show [a].Nodup; simp) (fun b m => .inl m) (fun b m => by
    obtain rfl : b = a := by simpa [fa] using m
    rw [upd_same]; simp) (fun r m => by
    obtain rfl : r = cell a ψ := by simpa using m
    exact ⟨o, upd_same, by show ψ.p (hid W.S (upd H a o)) o; rw [eq]; exact hp⟩)
  exact ⟨o2, by show Same (hid W.S H) (hid W.S (upd H a o)); rw [eq]; exact Same.refl _⟩
/-- a new cell -/
theorem Ok.cell {p : Addr} {ψ : CF} {o : HO} (h : Ok W σ H) (n : H p = none) (hp : ψ.p (hid W.S H) o) : Ok { W with S := p :: W.S, L := Cs.cell p ψ :: W.L } σ (upd H p o) ∧ Same (hid W.S H) (hid (p :: W.S) (upd H p o)) :=
  have up : Same (hid W.S H) (hid (p :: W.S) (upd H p o)) := Bt.hid (M := []) (N := [p]) (Bt.of (Same.new n)) (fun a m => nomatch m) (fun a m => .inr (by rw [List.mem_singleton.mp m]; exact n))
  h.change1 (C := []) (C' := [Cs.cell p ψ]) (R := W.L) (N := [p]) rfl (Bt.of (Same.new n)) (fun a m => by
    obtain rfl : a = p := by simpa using m
    exact ⟨n, by rw [upd_same]; simp⟩) (by show [p].Nodup; simp) (fun a m => .inr m) (fun a m => nomatch m) (fun r m => by
    obtain rfl : r = Cs.cell p ψ := by simpa using m
    exact ⟨o, upd_same, ψ.mono up hp⟩)
end
end Cs
set_option maxHeartbeats 4000000
namespace Cs
open PySem PySem.Spec PyProof.Rows L2
/-! ### what readings come to -/
def Fits (H : Hp) : List SF → List V → Prop
  | [], [] => True
  | f :: fs, v :: vs => f.p H v ∧ Fits H fs vs
  | _, _ => False
theorem Fits.mono {H H' : Hp} (e : Same H H') : ∀ {fs : List SF} {vs : List V}, Fits H fs vs → Fits H' fs vs
  | [], [], _ => trivial
  | _ :: _, _ :: _, ⟨a, b⟩ => ⟨SF.mono _ e a, Fits.mono e b⟩
  | [], _ :: _, h => h.elim
  | _ :: _, [], h => h.elim
theorem Fits.length {H : Hp} : ∀ {fs : List SF} {vs : List V}, Fits H fs vs → vs.length = fs.length
  | [], [], _ => rfl
  | _ :: _, _ :: _, ⟨_, b⟩ => by simp [Fits.length b]
  | [], _ :: _, h => h.elim
  | _ :: _, [], h => h.elim
theorem Fits.get {H : Hp} : ∀ {fs : List SF} {vs : List V} {i : Nat} {f : SF}, Fits H fs vs → fs[i]? = some f → ∃ v, vs[i]? = some v ∧ f.p H v
  | [], [], _, _, _, q => by simp at q
  | _ :: _, v :: _, 0, f, ⟨a, _⟩, q => by simp at q; subst q; exact ⟨v, rfl, a⟩
  | _ :: _, _ :: _, i + 1, f, ⟨_, b⟩, q => by
    obtain ⟨v, h1, h2⟩ := Fits.get b (i := i) (f := f) (by simpa using q)
    exact ⟨v, by simpa using h1, h2⟩
  | [], _ :: _, _, _, h, _ => h.elim
  | _ :: _, [], _, _, h, _ => h.elim
/-- the values vs are the xs -/
def All2 {α : Type} (r : V → α → Prop) : List V → List α → Prop
  | [], [] => True
  | v :: vs, x :: xs => r v x ∧ All2 r vs xs
  | _, _ => False
section
variable {α β : Type} {r q : V → α → Prop}
theorem All2.mono (e : ∀ v x, r v x → q v x) : ∀ {vs : List V} {xs : List α}, All2 r vs xs → All2 q vs xs
  | [], [], _ => trivial
  | _ :: _, _ :: _, ⟨a, b⟩ => ⟨e _ _ a, All2.mono e b⟩
  | [], _ :: _, h => h.elim
  | _ :: _, [], h => h.elim
theorem All2.length : ∀ {vs : List V} {xs : List α}, All2 r vs xs → vs.length = xs.length
  | [], [], _ => rfl
  | _ :: _, _ :: _, ⟨_, b⟩ => by simp [All2.length b]
  | [], _ :: _, h => h.elim
  | _ :: _, [], h => h.elim
theorem All2.get : ∀ {vs : List V} {xs : List α} {i : Nat} {x : α}, All2 r vs xs → xs[i]? = some x → ∃ v, vs[i]? = some v ∧ r v x
  | [], [], _, _, _, q => by simp at q
  | v :: _, _ :: _, 0, x, ⟨a, _⟩, q => by simp at q; subst q; exact ⟨v, rfl, a⟩
  | _ :: _, _ :: _, i + 1, x, ⟨_, b⟩, q => by
    obtain ⟨v, h1, h2⟩ := All2.get b (i := i) (x := x) (by simpa using q)
    exact ⟨v, by simpa using h1, h2⟩
  | [], _ :: _, _, _, h, _ => h.elim
  | _ :: _, [], _, _, h, _ => h.elim
theorem All2.getV : ∀ {vs : List V} {xs : List α} {i : Nat} {v : V}, All2 r vs xs → vs[i]? = some v → ∃ x, xs[i]? = some x ∧ r v x
  | [], [], _, _, _, q => by simp at q
  | _ :: _, x :: _, 0, v, ⟨a, _⟩, q => by simp at q; subst q; exact ⟨x, rfl, a⟩
  | _ :: _, _ :: _, i + 1, v, ⟨_, b⟩, q => by
    obtain ⟨x, h1, h2⟩ := All2.getV b (i := i) (v := v) (by simpa using q)
    exact ⟨x, by simpa using h1, h2⟩
  | [], _ :: _, _, _, h, _ => h.elim
  | _ :: _, [], _, _, h, _ => h.elim
theorem All2.app : ∀ {vs ws : List V} {xs ys : List α}, All2 r vs xs → All2 r ws ys → All2 r (vs ++ ws) (xs ++ ys)
  | [], _, [], _, _, g => g
  | _ :: _, _, _ :: _, _, ⟨a, b⟩, g => ⟨a, All2.app b g⟩
  | [], _, _ :: _, _, h, _ => h.elim
  | _ :: _, _, [], _, h, _ => h.elim
theorem All2.take : ∀ {vs : List V} {xs : List α} (n : Nat), All2 r vs xs → All2 r (vs.take n) (xs.take n)
  | _, _, 0, _ => trivial
  | [], [], _ + 1, _ => trivial
  | _ :: _, _ :: _, n + 1, ⟨a, b⟩ => ⟨a, All2.take n b⟩
  | [], _ :: _, _ + 1, h => h.elim
  | _ :: _, [], _ + 1, h => h.elim
theorem All2.drop : ∀ {vs : List V} {xs : List α} (n : Nat), All2 r vs xs → All2 r (vs.drop n) (xs.drop n)
  | _, _, 0, h => h
  | [], [], _ + 1, _ => trivial
  | _ :: _, _ :: _, n + 1, ⟨_, b⟩ => All2.drop n b
  | [], _ :: _, _ + 1, h => h.elim
  | _ :: _, [], _ + 1, h => h.elim
theorem All2.set {v : V} {x : α} (h : r v x) : ∀ {vs : List V} {xs : List α} (i : Nat), All2 r vs xs → All2 r (vs.set i v) (xs.set i x)
  | [], [], _, _ => trivial
  | _ :: _, _ :: _, 0, ⟨_, b⟩ => ⟨h, b⟩
  | _ :: _, _ :: _, i + 1, ⟨a, b⟩ => ⟨a, All2.set h i b⟩
  | [], _ :: _, _, h => h.elim
  | _ :: _, [], _, h => h.elim
theorem All2.ofMap (f : α → V) (h : ∀ x, r (f x) x) : ∀ (xs : List α), All2 r (xs.map f) xs
  | [] => trivial
  | x :: xs => ⟨h x, All2.ofMap f h xs⟩
theorem All2.toMap (f : α → V) (h : ∀ v x, r v x → v = f x) : ∀ {vs : List V} {xs : List α}, All2 r vs xs → vs = xs.map f
  | [], [], _ => rfl
  | _ :: _, _ :: _, ⟨a, b⟩ => by rw [h _ _ a, All2.toMap f h b]; rfl
  | [], _ :: _, h => h.elim
  | _ :: _, [], h => h.elim
end
/-! ### kinds of values -/
def tV : Ty V := ⟨fun _ v x => v = x, fun _ h => h⟩
def tInt : Ty Int := ⟨fun _ v x => v = .int x, fun _ h => h⟩
def tBl : Ty Bool := ⟨fun _ v x => v = .bl x, fun _ h => h⟩
def tSt : Ty Str := ⟨fun _ v x => v = .str x, fun _ h => h⟩
def tRf : Ty Addr := ⟨fun _ v x => v = .ref x, fun _ h => h⟩
def tNn : Ty Unit := ⟨fun _ v _ => v = .non, fun _ h => h⟩
theorem sqT_mono {K : PySem.W.Frag} {H H' : Hp} {a : Addr} {xs : List V} (e : Same H H') (h : SqT K H a xs) : SqT K H' a xs := by
  rcases h with (h | ⟨o, h⟩) | h
  · exact .inl (.inl (e _ _ h))
  · exact .inl (.inr ⟨o, e _ _ h⟩)
  · exact .inr h
def tFr (K : PySem.W.Frag) : Ty Rat := ⟨fun H v x => ∃ p, v = .ref p ∧ SqT K H p [.int x.num, .int (x.den : Int)], fun e ⟨p, h, g⟩ => ⟨p, h, sqT_mono e g⟩⟩
def tPr (K : PySem.W.Frag) {α β : Type} (t : Ty α) (u : Ty β) : Ty (α × β) := ⟨fun H v x => ∃ p a b, v = .ref p ∧ SqT K H p [a, b] ∧ t.r H a x.1 ∧ u.r H b x.2, fun e ⟨p, a, b, h, g, h1, h2⟩ => ⟨p, a, b, h, sqT_mono e g, t.mono e h1, u.mono e h2⟩⟩
/-- a tuple of such and such -/
def tTp (K : PySem.W.Frag) (α : Type) (fs : α → List SF) : Ty α := ⟨fun H v x => ∃ p vs, v = .ref p ∧ SqT K H p vs ∧ Fits H (fs x) vs, fun e ⟨p, vs, h, g, h1⟩ => ⟨p, vs, h, sqT_mono e g, h1.mono e⟩⟩
def tLs (K : PySem.W.Frag) {α : Type} (t : Ty α) : Ty (List α) := ⟨fun H v xs => ∃ p vs, v = .ref p ∧ H p = some (.lst vs) ∧ All2 (t.r H) vs xs, fun e ⟨p, vs, h, g, h1⟩ => ⟨p, vs, h, e _ _ g, All2.mono (fun _ _ => t.mono e) h1⟩⟩
def tSc (K : PySem.W.Frag) : Ty (List Int) := ⟨fun H v xs => ∃ p, v = .ref p ∧ SqL K H p (xs.map V.int), fun e ⟨p, h, g⟩ => ⟨p, h, e.seq g⟩⟩
def cLs {α : Type} (t : Ty α) (xs : List α) : CF := ⟨fun H o => ∃ vs, o = .lst vs ∧ All2 (t.r H) vs xs, fun e ⟨vs, h, g⟩ => ⟨vs, h, All2.mono (fun _ _ => t.mono e) g⟩⟩
/-! ### the judgements -/
def Ev {α : Type} (W : Wd) (te : TE) (t : Ty α) (x : α) : Prop := ∀ σ H, Ok W σ H → ∀ Q : VK, (∀ v H', Go1 W σ H H' → t.r (hid W.S H') v x → Q v H') → te σ H Q
def Et (W : Wd) (tt : TT) (b : Bool) : Prop := ∀ σ H, Ok W σ H → ∀ Q : Bool → Hp → Prop, (∀ H', Go1 W σ H H' → Q b H') → tt σ H Q
def Ea (W : Wd) (ta : TA) (fs : List SF) : Prop := ∀ σ H, Ok W σ H → ∀ Q : List V → Hp → Prop, (∀ vs H', Go1 W σ H H' → Fits (hid W.S H') fs vs → Q vs H') → ta σ H Q
/-- as Ev, of one of several values -/
def Evx {α : Type} (W : Wd) (te : TE) (t : Ty α) (P : α → Prop) : Prop := ∀ σ H, Ok W σ H → ∀ Q : VK, (∀ v x H', P x → Go1 W σ H H' → t.r (hid W.S H') v x → Q v H') → te σ H Q
theorem Ev.x {α : Type} {W : Wd} {te : TE} {t : Ty α} {x : α} {P : α → Prop} (h : Ev W te t x) (p : P x) : Evx W te t P := fun σ H o Q q => h σ H o Q fun v H' g r => q v x H' p g r
theorem Evx.ev {α : Type} {W : Wd} {te : TE} {t : Ty α} {x : α} (h : Evx W te t (fun y => y = x)) : Ev W te t x := fun σ H o Q q => h σ H o Q fun v y H' p g r => q v H' g (p ▸ r)
/-- a def that leaves all as it was but the things C, which keep what they promise -/
def spN {α β : Type} (C : α → List RS) (A : α → List SF) (w : Ty β) (pre : α → Prop) (post : α → β → Prop) : Sp := fun vs H Q _ => ∃ (S : List Addr) (x : α), (∀ a ∈ S, H a ≠ none) ∧ (fps (C x)).Nodup ∧ (∀ a, a ∈ fps (C x) → a ∈ S) ∧ RsAt (C x) S H ∧
  Fits (hid S H) (A x) vs ∧ pre x ∧ ∀ v y H', post x y → Bt (fps (C x)) H H' → (∀ a, a ∈ fps (C x) → H' a ≠ none) → RsAt (C x) S H' → w.r (hid S H') v y → Q v H'
def spP {α β : Type} (A : α → List SF) (w : Ty β) (pre : α → Prop) (f : α → β) : Sp := spN (fun _ => []) A w pre (fun x y => y = f x)
section
variable {α β γ : Type} {W : Wd} {K : PySem.W.Frag} {ta tb tc : TE} {t : Ty α} {u : Ty β} {x : α} {y : β} {tt uu : TT} {ar : TA} {fs : List SF} {i j : Int} {E : XK}
theorem ev_is {x' : α} (h : Ev W ta t x) (e : x = x') : Ev W ta t x' := e ▸ h
theorem ev_to {u : Ty β} {y : β} (h : Ev W ta t x) (e : ∀ H v, t.r H v x → u.r H v y) : Ev W ta u y := fun σ H o Q q => h σ H o Q fun v H' g r => q v H' g (e _ _ r)
theorem ev_var {n : Nat} (h : W.G[n]? = some (some (t.is x))) : Ev W (tVar n) t x := fun σ H o Q q => by
  obtain ⟨v, h1, h2⟩ := o.slots n _ h
  exact ⟨v, h1, q v H (Go1.refl o) h2⟩
theorem ev_c {v : V} : Ev W (tC v) tV v := fun σ H o Q q => q v H (Go1.refl o) rfl
theorem ev_int : Ev W (tC (.int i)) tInt i := fun σ H o Q q => q _ H (Go1.refl o) rfl
theorem ev_str {z : Str} : Ev W (tC (.str z)) tSt z := fun σ H o Q q => q _ H (Go1.refl o) rfl
theorem ev_bl {b : Bool} : Ev W (tC (.bl b)) tBl b := fun σ H o Q q => q _ H (Go1.refl o) rfl
theorem ev_non : Ev W (tC .non) tNn () := fun σ H o Q q => q _ H (Go1.refl o) rfl
/-- a constant of the written part -/
theorem ev_k {a : Addr} (h : ∀ H, t.r H (.ref a) x) : Ev W (tC (.ref a)) t x := fun σ H o Q q => q _ H (Go1.refl o) (h _)
theorem ev_add (ha : Ev W ta tInt i) (hb : Ev W tb tInt j) : Ev W (tOp (rI0 fun i j => .int (i + j)) ta tb) tInt (i + j) := fun σ H o Q q =>
  ha σ H o _ fun v H1 g1 r1 => hb σ H1 g1.ok _ fun v2 H2 g2 r2 => ⟨i, j, r1, r2, q _ H2 (g1.trans g2) rfl⟩
theorem ev_sub (ha : Ev W ta tInt i) (hb : Ev W tb tInt j) : Ev W (tOp (rI0 fun i j => .int (i - j)) ta tb) tInt (i - j) := fun σ H o Q q =>
  ha σ H o _ fun v H1 g1 r1 => hb σ H1 g1.ok _ fun v2 H2 g2 r2 => ⟨i, j, r1, r2, q _ H2 (g1.trans g2) rfl⟩
theorem ev_mul (ha : Ev W ta tInt i) (hb : Ev W tb tInt j) (k : IntMulOk i j) : Ev W (tOp (rI IntMulOk fun i j => .int (i * j)) ta tb) tInt (i * j) := fun σ H o Q q =>
  ha σ H o _ fun v H1 g1 r1 => hb σ H1 g1.ok _ fun v2 H2 g2 r2 => ⟨i, j, r1, r2, k, q _ H2 (g1.trans g2) rfl⟩
theorem ev_fdiv (ha : Ev W ta tInt i) (hb : Ev W tb tInt j) (k : CDivA i j) : Ev W (tOp (rI CDivA fun i j => .int (i.fdiv j)) ta tb) tInt (i.fdiv j) := fun σ H o Q q =>
  ha σ H o _ fun v H1 g1 r1 => hb σ H1 g1.ok _ fun v2 H2 g2 r2 => ⟨i, j, r1, r2, k, q _ H2 (g1.trans g2) rfl⟩
theorem ev_mod (ha : Ev W ta tInt i) (hb : Ev W tb tInt j) (k : 0 < j) : Ev W (tOp (rI (fun _ j => 0 < j) fun i j => .int (i % j)) ta tb) tInt (i % j) := fun σ H o Q q =>
  ha σ H o _ fun v H1 g1 r1 => hb σ H1 g1.ok _ fun v2 H2 g2 r2 => ⟨i, j, r1, r2, k, q _ H2 (g1.trans g2) rfl⟩
theorem ev_neg (ha : Ev W ta tInt i) : Ev W (tUn (rU fun i => .int (-i)) ta) tInt (-i) := fun σ H o Q q => ha σ H o _ fun v H1 g1 r1 => ⟨i, r1, q _ H1 g1 rfl⟩
/-- comparisons of ints, as values and as tests -/
theorem ev_cmp {g : Int → Int → Bool} (ha : Ev W ta tInt i) (hb : Ev W tb tInt j) : Ev W (tOp (rI0 fun i j => .bl (g i j)) ta tb) tBl (g i j) := fun σ H o Q q =>
  ha σ H o _ fun v H1 g1 r1 => hb σ H1 g1.ok _ fun v2 H2 g2 r2 => ⟨i, j, r1, r2, q _ H2 (g1.trans g2) rfl⟩
theorem et_cmp {g : Int → Int → Bool} (ha : Ev W ta tInt i) (hb : Ev W tb tInt j) : Et W (tTest (tOp (rI0 fun i j => .bl (g i j)) ta tb)) (g i j) := fun σ H o Q q =>
  ha σ H o _ fun v H1 g1 r1 => hb σ H1 g1.ok _ fun v2 H2 g2 r2 => ⟨i, j, r1, r2, _, rfl, q H2 (g1.trans g2)⟩
theorem et_of {b : Bool} (ha : Ev W ta tBl b) : Et W (tTest ta) b := fun σ H o Q q => ha σ H o _ fun v H1 g1 r1 => ⟨b, r1, q H1 g1⟩
theorem et_B {b : Bool} (ha : Ev W ta tBl b) : Et W (tB ta) b := fun σ H o Q q => ha σ H o _ fun v H1 g1 r1 => ⟨b, r1, q H1 g1⟩
theorem et_is {b c : Bool} (h : Et W tt b) (e : b = c) : Et W tt c := e ▸ h
theorem et_not {b : Bool} (h : Et W tt b) : Et W (tNot tt) (!b) := fun σ H o Q q => h σ H o _ fun H1 g1 => q H1 g1
theorem et_and {b c : Bool} (h : Et W tt b) (g : b = true → Et W uu c) : Et W (tAnd tt uu) (b && c) := fun σ H o Q q => h σ H o _ fun H1 g1 => by
  cases b with
  | true =>
    show uu σ H1 Q
    exact g rfl σ H1 g1.ok Q fun H2 g2 => q H2 (g1.trans g2)
  | false => exact q H1 g1
theorem et_or {b c : Bool} (h : Et W tt b) (g : b = false → Et W uu c) : Et W (tOr tt uu) (b || c) := fun σ H o Q q => h σ H o _ fun H1 g1 => by
  cases b with
  | true => exact q H1 g1
  | false =>
    show uu σ H1 Q
    exact g rfl σ H1 g1.ok Q fun H2 g2 => q H2 (g1.trans g2)
theorem ev_andV {b c : Bool} (h : Ev W ta tBl b) (g : b = true → Ev W tb tBl c) : Ev W (tAndV ta tb) tBl (b && c) := fun σ H o Q q => h σ H o _ fun v H1 g1 r1 => ⟨b, r1, by
  cases b with
  | true =>
    show tb σ H1 Q
    exact g rfl σ H1 g1.ok Q fun v H2 g2 r => q v H2 (g1.trans g2) r
  | false => exact q _ H1 g1 rfl⟩
theorem ev_orV {b c : Bool} (h : Ev W ta tBl b) (g : b = false → Ev W tb tBl c) : Ev W (tOrV ta tb) tBl (b || c) := fun σ H o Q q => h σ H o _ fun v H1 g1 r1 => ⟨b, r1, by
  cases b with
  | true => exact q _ H1 g1 rfl
  | false =>
    show tb σ H1 Q
    exact g rfl σ H1 g1.ok Q fun v H2 g2 r => q v H2 (g1.trans g2) r⟩
theorem ev_notV {b : Bool} (h : Ev W ta tBl b) : Ev W (tNotV ta) tBl (!b) := fun σ H o Q q => h σ H o _ fun v H1 g1 r1 => ⟨b, r1, q _ H1 g1 rfl⟩
theorem ev_if {b : Bool} (h : Et W tt b) (ha : b = true → Ev W ta t x) (hb : b = false → Ev W tb t x) : Ev W (tIf tt ta tb) t x := fun σ H o Q q => h σ H o _ fun H1 g1 => by
  cases b with
  | true =>
    show ta σ H1 Q
    exact ha rfl σ H1 g1.ok Q fun v H2 g2 r => q v H2 (g1.trans g2) r
  | false =>
    show tb σ H1 Q
    exact hb rfl σ H1 g1.ok Q fun v H2 g2 r => q v H2 (g1.trans g2) r
theorem ea_nil : Ea W tNil [] := fun σ H o Q q => q [] H (Go1.refl o) trivial
theorem ea_cons (ha : Ev W ta t x) (hr : Ea W ar fs) : Ea W (tCons ta ar) (t.is x :: fs) := fun σ H o Q q =>
  ha σ H o _ fun v H1 g1 r1 => hr σ H1 g1.ok _ fun vs H2 g2 r2 => q (v :: vs) H2 (g1.trans g2) ⟨t.mono g2.up r1, r2⟩
/-- a written tuple -/
theorem ev_tup {fs' : α → List SF} (h : Ea W ar fs) (e : fs' x = fs) (hl : fs.length ≤ sizeLine := by decide) : Ev W (tTup ar) (tTp K α fs') x := fun σ H o Q q =>
  h σ H o _ fun vs H1 g1 r1 => ⟨by rw [r1.length]; exact hl, fun p np => q _ _ (g1.trans (g1.ok.new np)) ⟨p, vs, rfl, SqT.of (by rw [hid_of (g1.ok.off np)]; exact upd_same), by rw [e]; exact r1.mono (g1.ok.new np).up⟩⟩
theorem ev_pr (ha : Ev W ta t x) (hb : Ev W tb u y) : Ev W (tTup (tCons ta (tCons tb tNil))) (tPr K t u) (x, y) := fun σ H o Q q =>
  ha σ H o _ fun v H1 g1 r1 => hb σ H1 g1.ok _ fun v2 H2 g2 r2 => ⟨by show 2 ≤ sizeLine; decide, fun p np => q _ _ ((g1.trans g2).trans (g2.ok.new np))
    ⟨p, v, v2, rfl, SqT.of (by rw [hid_of (g2.ok.off np)]; exact upd_same), t.mono (g2.up.trans (g2.ok.new np).up) r1, u.mono (g2.ok.new np).up r2⟩⟩
theorem ev_fst (h : Ev W ta (tPr K t u) (x, y)) : Ev W (tOp (rIxT K) ta (tC (.int 0))) t x := fun σ H o Q q =>
  h σ H o _ fun v H1 g1 ⟨p, a, b, e, s, r1, r2⟩ => ⟨p, [a, b], 0, a, e, rfl, sqT_mono hid_sub s, rfl, q a H1 g1 r1⟩
theorem ev_snd (h : Ev W ta (tPr K t u) (x, y)) : Ev W (tOp (rIxT K) ta (tC (.int 1))) u y := fun σ H o Q q =>
  h σ H o _ fun v H1 g1 ⟨p, a, b, e, s, r1, r2⟩ => ⟨p, [a, b], 1, b, e, rfl, sqT_mono hid_sub s, rfl, q b H1 g1 r2⟩
theorem ev_num {r : Rat} (h : Ev W ta (tFr K) r) : Ev W (tOp (rIxT K) ta (tC (.int 0))) tInt r.num := fun σ H o Q q =>
  h σ H o _ fun v H1 g1 ⟨p, e, s⟩ => ⟨p, _, 0, _, e, rfl, sqT_mono hid_sub s, rfl, q _ H1 g1 rfl⟩
theorem ev_den {r : Rat} (h : Ev W ta (tFr K) r) : Ev W (tOp (rIxT K) ta (tC (.int 1))) tInt (r.den : Int) := fun σ H o Q q =>
  h σ H o _ fun v H1 g1 ⟨p, e, s⟩ => ⟨p, _, 1, _, e, rfl, sqT_mono hid_sub s, rfl, q _ H1 g1 rfl⟩
/-- an item of a tuple -/
theorem ev_item {fs' : α → List SF} {n : Nat} {u : Ty β} {y : β} (h : Ev W ta (tTp K α fs') x) (e : (fs' x)[n]? = some (u.is y)) : Ev W (tOp (rIxT K) ta (tC (.int (n : Int)))) u y := fun σ H o Q q =>
  h σ H o _ fun v H1 g1 ⟨p, vs, ev, s, ft⟩ => by
    obtain ⟨z, hz, rz⟩ := ft.get e
    exact ⟨p, vs, n, z, ev, rfl, sqT_mono hid_sub s, atI_nat hz, q z H1 g1 rz⟩
/-- a fraction written as a pair -/
theorem ev_frac {p q : Int} {r : Rat} (ha : Ev W ta tInt p) (hb : Ev W tb tInt q) (hp : r.num = p) (hq : (r.den : Int) = q) : Ev W (tTup (tCons ta (tCons tb tNil))) (tFr K) r := fun σ H o Q k =>
  ha σ H o _ fun v H1 g1 r1 => hb σ H1 g1.ok _ fun v2 H2 g2 r2 => ⟨by show 2 ≤ sizeLine; decide, fun p np => k _ _ ((g1.trans g2).trans (g2.ok.new np)) ⟨p, rfl, SqT.of (by
    rw [hid_of (g2.ok.off np), upd_same, hp, hq]
    cases r1; cases r2; rfl)⟩⟩
/-- a list's item by its place -/
theorem ev_ixL {xs : List α} {n : Int} {t : Ty α} (h : Ev W ta (tLs K t) xs) (hb : Ev W tb tInt n) (e : atI xs n = some x) : Ev W (tOp (rIxL K) ta tb) t x := fun σ H o Q q =>
  h σ H o _ fun v H1 g1 r1 => hb σ H1 g1.ok _ fun v2 H2 g2 r2 => by
    obtain ⟨p, vs, ev, s, al⟩ := (tLs K t).mono g2.up r1
    have : ∃ z, atI vs n = some z ∧ t.r (hid W.S H2) z x := by
      unfold atI at e ⊢
      rw [al.length]
      cases c : ixN xs.length n with
      | none => rw [c] at e; cases e
      | some k =>
        rw [c] at e
        exact al.get e
    obtain ⟨z, hz, rz⟩ := this
    exact ⟨p, vs, n, z, ev, r2, (SqL.of (hid_sub _ _ s)), hz, q z H2 (g1.trans g2) rz⟩
/-- len of a list -/
theorem ev_len {xs : List α} {t : Ty α} (h : Ev W ta (tLs K t) xs) : Ev W (tCB (fun xs H Q => ∃ p ys, xs = [.ref p] ∧ (SqL K H p ys ∨ SqT K H p ys) ∧ Q (.int ys.length) H) (tCons ta tNil)) tInt (xs.length : Int) := fun σ H o Q q =>
  h σ H o _ fun v H1 g1 ⟨p, vs, ev, s, al⟩ => ⟨p, vs, by rw [ev], .inl ((SqL.of (hid_sub _ _ s))), q _ H1 g1 (by rw [al.length]; rfl)⟩
theorem ev_lenS {z : Str} (h : Ev W ta tSt z) (hl : z.length ≤ sizeLine) : Ev W (tCB (fun xs H Q => ∃ z : Str, xs = [.str z] ∧ z.length ≤ sizeLine ∧ Q (.int z.length) H) (tCons ta tNil)) tInt (z.length : Int) := fun σ H o Q q =>
  h σ H o _ fun v H1 g1 e => ⟨z, by rw [show v = .str z from e], hl, q _ H1 g1 rfl⟩
/-- list(xs) -/
theorem ev_list {xs : List α} {t : Ty α} (h : Ev W ta (tLs K t) xs) : Ev W (tCB (fun xs H Q => ∃ p ys, xs = [.ref p] ∧ (SqL K H p ys ∨ SqT K H p ys) ∧ ∀ l, H l = none → Q (.ref l) (upd H l (.lst ys))) (tCons ta tNil)) (tLs K t) xs := fun σ H o Q q =>
  h σ H o _ fun v H1 g1 ⟨p, vs, ev, s, al⟩ => ⟨p, vs, by rw [ev], .inl ((SqL.of (hid_sub _ _ s))), fun l nl => q _ _ (g1.trans (g1.ok.new nl)) ⟨l, vs, rfl, (by rw [hid_of (g1.ok.off nl)]; exact upd_same), All2.mono (fun _ _ => t.mono (g1.ok.new nl).up) al⟩⟩
theorem ev_abs (h : Ev W ta tInt i) : Ev W (tCB (fun xs H Q => ∃ i, xs = [.int i] ∧ Q (.int (if i < 0 then -i else i)) H) (tCons ta tNil)) tInt (if i < 0 then -i else i) := fun σ H o Q q =>
  h σ H o _ fun v H1 g1 e => ⟨i, by rw [show v = .int i from e], q _ H1 g1 rfl⟩
theorem ev_int1 (h : Ev W ta tInt i) : Ev W (tCB (fun xs H Q => (∃ i, xs = [.int i] ∧ Q (.int i) H) ∨ ∃ k, xs = [.bl k] ∧ Q (.int (if k then 1 else 0)) H) (tCons ta tNil)) tInt i := fun σ H o Q q =>
  h σ H o _ fun v H1 g1 e => .inl ⟨i, by rw [show v = .int i from e], q _ H1 g1 rfl⟩
theorem ev_strI (h : Ev W ta tInt i) (hi : i.natAbs.log2 < 1920) : Ev W (tCB (fun xs H Q => ∃ i : Int, xs = [.int i] ∧ i.natAbs.log2 < 1920 ∧ Q (.str (toString i)) H) (tCons ta tNil)) tSt (Str.ofString (toString i)) := fun σ H o Q q =>
  h σ H o _ fun v H1 g1 e => ⟨i, by rw [show v = .int i from e], hi, q _ H1 g1 rfl⟩
/-- a call of a def -/
theorem evx_call {C : γ → List RS} {A : γ → List SF} {w : Ty β} {pre : γ → Prop} {post : γ → β → Prop} {z : γ} (h : Ea W ar (A z)) (hp : pre z) (hC : (C z).Sublist W.L := by first | exact List.nil_sublist _ | exact List.Sublist.refl _ | exact List.singleton_sublist.mpr (by simp) | simp) :
    Evx W (tCall (spN C A w pre post) [] E ar) w (post z) := fun σ H o Q q => h σ H o _ fun vs H1 g1 r1 => by
  have sub : ∀ a, a ∈ fps (C z) → a ∈ W.S := fun a m => by
    obtain ⟨r, m1, m2⟩ := of_fps m
    exact (g1.ok.own a (mem_fps (hC.subset m1) m2)).1
  refine ⟨W.S, z, g1.ok.al, ?_, sub, fun r m => g1.ok.at_ r (hC.subset m), by rw [List.append_nil]; exact r1, hp, fun v y H2 py b al c r => ?_⟩
  · exact (fps_sub hC).nodup g1.ok.nod
  · exact q v y H2 py (g1.trans (g1.ok.after (fun r m => hC.subset m) b al c)) r
theorem ev_call {A : γ → List SF} {w : Ty β} {pre : γ → Prop} {f : γ → β} {z : γ} (h : Ea W ar (A z)) (hp : pre z) : Ev W (tCall (spP A w pre f) [] E ar) w (f z) := (evx_call h hp).ev
end
end Cs
set_option maxHeartbeats 4000000
namespace Cs
open PySem PySem.Spec PyProof.Rows L2
/-! ### statements -/
def Go (W : Wd) (ts : TS) (D : Ends) : Prop := ∀ σ H, Ok W σ H → ts D σ H
def Wd.at (W : Wd) (i : Nat) (f : SF) : Wd := { W with G := W.G.set i (some f) }
def Wd.no (W : Wd) (i : Nat) : Wd := { W with G := W.G.set i none }
/-- what holds in W holds in W' -/
def Wk (W W' : Wd) : Prop := ∀ σ H, Ok W σ H → Ok W' σ H
theorem Wk.refl {W : Wd} : Wk W W := fun _ _ h => h
theorem Wk.trans {W W1 W2 : Wd} (a : Wk W W1) (b : Wk W1 W2) : Wk W W2 := fun σ H h => b σ H (a σ H h)
/-- slots and facts are forgotten -/
theorem Wk.of {H0 : Hp} {M S : List Addr} {L : List RS} {F F' : List FF} {G G' : List (Option SF)} (hl : G.length = G'.length) (h : ∀ (i : Nat) (f : SF), G'[i]? = some (some f) → G[i]? = some (some f)) (hF : ∀ f, f ∈ F' → f ∈ F) : Wk ⟨H0, M, S, L, F, G⟩ ⟨H0, M, S, L, F', G'⟩ := fun σ H o =>
  ⟨o.nod, o.own, o.at_, o.ms, o.al, o.bt, o.len.trans hl, fun f m => o.facts f (hF f m), fun i f g => o.slots i f (h i f g)⟩
section
variable {α β γ : Type} {W W' : Wd} {K : PySem.W.Frag} {ta tb tc : TE} {t : Ty α} {u : Ty β} {x : α} {y : β} {tt uu : TT} {ar : TA} {fs : List SF} {ts us : TS} {D : Ends} {σ : L2.St} {H : Hp} {i : Nat}
theorem go_wk (w : Wk W W') (h : Go W' ts D) : Go W ts D := fun σ H o => h σ H (w σ H o)
theorem ev_wk (w : Wk W W') (up : W.S = W'.S) (hb : Wk W' W) (h : Ev W' ta t x) : Ev W ta t x := fun σ H o Q q => h σ H (w σ H o) Q fun v H' g r => q v H' ⟨hb _ _ g.ok, by rw [up]; exact g.up⟩ (by rw [up]; exact r)
theorem Ok.put {v : V} {f : SF} (o : Ok W σ H) (h : f.p (hid W.S H) v) : Ok (W.at i f) (σ.set i (some v)) H :=
  ⟨o.nod, o.own, o.at_, o.ms, o.al, o.bt, by show (σ.set i (some v)).length = (W.G.set i (some f)).length; rw [List.length_set, List.length_set]; exact o.len, o.facts, fun j g q => by
    have q : (W.G.set i (some f))[j]? = some (some g) := q
    by_cases e : i = j
    · subst e
      rw [List.getElem?_set] at q
      by_cases l : i < W.G.length
      · rw [if_pos rfl, if_pos l] at q
        obtain rfl : f = g := Option.some.inj (Option.some.inj q)
        exact ⟨v, by rw [List.getElem?_set, if_pos rfl, if_pos (by rw [o.len]; exact l)], h⟩
      · rw [if_pos rfl, if_neg l] at q; cases q
    · rw [List.getElem?_set, if_neg e] at q
      obtain ⟨w, h1, h2⟩ := o.slots j g q
      exact ⟨w, by rw [List.getElem?_set, if_neg e]; exact h1, h2⟩⟩
theorem Ok.know {f : FF} (o : Ok W σ H) (h : f.p (hid W.S H)) : Ok { W with F := f :: W.F } σ H :=
  ⟨o.nod, o.own, o.at_, o.ms, o.al, o.bt, o.len, fun g m => by
    rcases List.mem_cons.mp m with m | m
    · rw [m]; exact h
    · exact o.facts g m, o.slots⟩
theorem go_set (h : Ev W ta t x) (k : Go (W.at i (t.is x)) us D) : Go W (tSeq (tAsg ta (gName i)) us) D := fun σ H o => h σ H o _ fun v H1 g r => k _ _ (g.ok.put r)
theorem go_set1 (h : Ev W ta t x) (k : ∀ σ H, Ok (W.at i (t.is x)) σ H → D.nx σ H) : Go W (tAsg ta (gName i)) D := fun σ H o => h σ H o _ fun v H1 g r => k _ _ (g.ok.put r)
/-- the value is known, some further facts of it too -/
theorem go_seq (h : Go W ts { D with nx := us D }) : Go W (tSeq ts us) D := h
theorem go_next (h : ∀ σ H, Ok W σ H → D.nx σ H) : Go W tNext D := h
theorem go_if {b : Bool} (h : Et W tt b) (h1 : b = true → Go W ts D) (h2 : b = false → Go W us D) : Go W (tIfS tt ts us) D := fun σ H o => h σ H o _ fun H1 g => by
  cases b with
  | true => exact h1 rfl σ H1 g.ok
  | false => exact h2 rfl σ H1 g.ok
/-- if .. : return | raise (and then go on) -/
theorem go_ifr {b : Bool} {vs : TS} (h : Et W tt b) (h1 : b = true → Go W ts { D with nx := vs D }) (h2 : b = false → Go W vs D) : Go W (tSeq (tIfS tt ts tNext) vs) D := go_if h h1 h2
theorem go_ret (h : Ev W ta t x) (k : ∀ σ v H, Ok W σ H → t.r (hid W.S H) v x → D.rt v H) : Go W (tRet ta) D := fun σ H o => h σ H o _ fun v H1 g r => k σ v H1 g.ok r
theorem go_drop (h : Ev W ta t x) (k : Go W us D) : Go W (tSeq (tDrop ta) us) D := fun σ H o => h σ H o _ fun v H1 g r => k _ _ g.ok
/-- what a promise wants at its end -/
def Rt (C : List RS) (S : List Addr) (H : Hp) (w : Ty β) (P : β → Prop) (Q : VK) : Prop := ∀ v y H', P y → Bt (fps C) H H' → (∀ a, a ∈ fps C → H' a ≠ none) → RsAt C S H' → w.r (hid S H') v y → Q v H'
theorem Ok.rsAt {C : List RS} {S : List Addr} (o : Ok W σ H) (hC : ∀ c ∈ C, c ∈ W.L) (hS : ∀ a, a ∈ S → a ∈ W.S) : RsAt C S H := fun r m => r.mono (hid_less hS) (o.at_ r (hC r m))
theorem go_endx {C : List RS} {S : List Addr} {w : Ty β} {P : β → Prop} {Q : VK} (h : Evx W ta w P) (out : Rt C S W.H0 w P Q) (hM : W.M = fps C := by rfl) (hC : ∀ c ∈ C, c ∈ W.L := by first | (intro c z; cases z) | (intro c z; exact z) | simp) (hS : ∀ a, a ∈ S → a ∈ W.S := by first | (intro a z; exact z) | (intro a z; exact List.mem_cons_of_mem _ z) | (intro a z; exact List.mem_cons_of_mem _ (List.mem_cons_of_mem _ z)) | simp) (hD : D.rt = Q := by rfl) : Go W (tRet ta) D := fun σ H o =>
  h σ H o _ fun v y H1 p g r => by
    rw [hD]
    exact out v y H1 p (by rw [← hM]; exact g.ok.bt) (fun a m => g.ok.al a (g.ok.ms a (by rw [hM]; exact m))) (g.ok.rsAt hC hS) (w.mono (hid_less hS) r)
theorem go_end {C : List RS} {S : List Addr} {w : Ty β} {P : β → Prop} {Q : VK} (h : Ev W ta w y) (out : Rt C S W.H0 w P Q) (hp : P y := by rfl) (hM : W.M = fps C := by rfl) (hC : ∀ c ∈ C, c ∈ W.L := by first | (intro c z; cases z) | (intro c z; exact z) | simp) (hS : ∀ a, a ∈ S → a ∈ W.S := by first | (intro a z; exact z) | (intro a z; exact List.mem_cons_of_mem _ z) | (intro a z; exact List.mem_cons_of_mem _ (List.mem_cons_of_mem _ z)) | simp) (hD : D.rt = Q := by rfl) : Go W (tRet ta) D :=
  go_endx (h.x hp) out hM hC hS hD
/-! ### a def keeps its promise -/
theorem ok_N {P : Program} {w : World} {mg : Str → Option Value} {base : Heap} {nm qual : Str} {st : Stmt} {f : Addr} {fd : FuncData} {N ps : List Str} {k : Nat} {C : α → List RS} {A : α → List SF} {wt : Ty β} {pre : α → Prop} {post : α → β → Prop}
    (F : Fun K nm qual st f fd) (S : FnScope N ps (defScope st)) (hl : ∀ x, (A x).length = ps.length)
    (body : ∀ (cdv : Value) (A' : Around) (outer : List Env) (s : Shared) (H0 : Hp) (S : List Addr) (x : α) (Q : VK) (E : XK), Room k (A'.deeper (envOfC qual (defScope st) s.heap.objs.size f cdv)) → pre x → Rt (C x) S H0 wt (post x) Q →
      ∃ t, PSs (cxOf CX0 P w K mg base N qual (defScope st) f cdv A' outer s H0 E).nox (defBody st) t ∧ Go ⟨H0, fps (C x), S, C x, [], (A x).map some ++ List.replicate (N.length - ps.length) none⟩ t { nx := fun _ H' => Q .non H', rt := Q }) :
    FnOk P w K mg base CX0 (k + 1) f fd ps (spN C A wt pre post) := by
  refine F.ok S (fun vs H Q E h => ?_) (fun cdv A' outer s H vs Q E hr h => ?_)
  · obtain ⟨S', x, _, _, _, _, ft, _⟩ := h
    rw [ft.length, hl]
  · obtain ⟨S', x, al, nd, sub, cc, ft, hp, out⟩ := h
    obtain ⟨t, h1, h2⟩ := body cdv A' outer s H S' x Q E hr hp (fun v y H' => out v y H')
    refine ⟨t, h1, h2 _ _ ⟨nd, fun a m => ⟨sub a m, .inl m⟩, cc, sub, al, Bt.refl, ?_, (fun f m => nomatch m), fun i f' q => ?_⟩⟩
    · show (L2.start N vs).length = ((A x).map some ++ List.replicate (N.length - ps.length) none).length
      unfold L2.start
      have e1 := ft.length
      have e2 := hl x
      simp only [List.length_append, List.length_map, List.length_replicate]
      omega
    · have q : ((A x).map some ++ List.replicate (N.length - ps.length) none)[i]? = some (some f') := q
      unfold L2.start
      by_cases l : i < (A x).length
      · rw [List.getElem?_append_left (by simpa using l), List.getElem?_map] at q
        cases c : (A x)[i]? with
        | none => rw [c] at q; cases q
        | some z =>
          rw [c] at q
          obtain rfl : z = f' := Option.some.inj (Option.some.inj q)
          obtain ⟨v, hv, hz⟩ := ft.get c
          exact ⟨v, by rw [List.getElem?_append_left (by simpa [ft.length] using l), List.getElem?_map, hv]; rfl, hz⟩
      · rw [List.getElem?_append_right (by simpa using l)] at q
        have := List.mem_of_getElem? q
        rw [List.mem_replicate] at this
        exact absurd this.2 (by simp)
theorem ok_P {P : Program} {w : World} {mg : Str → Option Value} {base : Heap} {nm qual : Str} {st : Stmt} {f : Addr} {fd : FuncData} {N ps : List Str} {k : Nat} {A : α → List SF} {wt : Ty β} {pre : α → Prop} {g : α → β}
    (F : Fun K nm qual st f fd) (S : FnScope N ps (defScope st)) (hl : ∀ x, (A x).length = ps.length)
    (body : ∀ (cdv : Value) (A' : Around) (outer : List Env) (s : Shared) (H0 : Hp) (S : List Addr) (x : α) (Q : VK) (E : XK), Room k (A'.deeper (envOfC qual (defScope st) s.heap.objs.size f cdv)) → pre x → Rt [] S H0 wt (fun y => y = g x) Q →
      ∃ t, PSs (cxOf CX0 P w K mg base N qual (defScope st) f cdv A' outer s H0 E).nox (defBody st) t ∧ Go ⟨H0, [], S, [], [], (A x).map some ++ List.replicate (N.length - ps.length) none⟩ t { nx := fun _ H' => Q .non H', rt := Q }) :
    FnOk P w K mg base CX0 (k + 1) f fd ps (spP A wt pre g) := ok_N F S hl body
/-! ### loops -/
/-- the list at p -/
def ffL (K : PySem.W.Frag) (t : Ty α) (p : Addr) (vs : List V) (xs : List α) : FF := ⟨fun H => SqL K H p vs ∧ All2 (t.r H) vs xs, fun e h => ⟨e.seq h.1, All2.mono (fun _ _ => t.mono e) h.2⟩⟩
/-- for x in xs: the world at each turn by a parameter -/
theorem go_forL {ι : Type} {xs : List α} (h : Ev W ta (tLs K t) xs) (J : Nat → ι → List RS × List (Option SF)) (Pv : Nat → ι → Prop) (c0 : ι) (p0 : Pv 0 c0) (w0 : Wk W { W with L := (J 0 c0).1, G := (J 0 c0).2 })
    (hs : ∀ k c x (F : List FF), (∀ f ∈ W.F, f ∈ F) → xs[k]? = some x → Pv k c → Go (Wd.at ⟨W.H0, W.M, W.S, (J k c).1, F, (J k c).2⟩ i (t.is x)) ts
      { D with nx := fun σ H => ∃ c', Pv (k + 1) c' ∧ Ok ⟨W.H0, W.M, W.S, (J (k + 1) c').1, F, (J (k + 1) c').2⟩ σ H, ct := fun σ H => ∃ c', Pv (k + 1) c' ∧ Ok ⟨W.H0, W.M, W.S, (J (k + 1) c').1, F, (J (k + 1) c').2⟩ σ H, bk := D.nx })
    (hd : ∀ c, Pv xs.length c → ∀ σ H, Ok { W with L := (J xs.length c).1, G := (J xs.length c).2 } σ H → D.nx σ H) :
    Go W (tFor (iList K ta) (gName i) ts) D := fun σ H o => by
  refine h σ H o _ fun v H1 g r => ?_
  obtain ⟨p, vs, rfl, hq, al⟩ := r
  refine ⟨p, rfl, ⟨vs, SqL.of (hid_sub _ _ hq)⟩, ?_⟩
  have hlen := al.length
  refine for_list (K := K) (a := p) (xs := vs) (fun k σ' H' => ∃ c, Pv k c ∧ Ok ⟨W.H0, W.M, W.S, (J k c).1, ffL K t p vs xs :: W.F, (J k c).2⟩ σ' H') ⟨c0, p0, Ok.know (w0 _ _ g.ok) ⟨SqL.of hq, al⟩⟩ (fun k σ' H' _ ⟨c, _, o'⟩ => hid_sub.seq (o'.facts (ffL K t p vs xs) (List.mem_cons_self ..)).1) ?_ ?_
  · rintro k w σ' H' hw ⟨c, pc, o'⟩
    obtain ⟨_, al'⟩ := o'.facts (ffL K t p vs xs) (List.mem_cons_self ..)
    obtain ⟨x, hx, rx⟩ := al'.getV hw
    exact hs k c x (ffL K t p vs xs :: W.F) (fun f m => List.mem_cons_of_mem _ m) hx pc _ _ (o'.put rx)
  · rintro σ' H' ⟨c, pc, o'⟩
    rw [hlen] at pc o'
    exact hd c pc _ _ ⟨o'.nod, o'.own, o'.at_, o'.ms, o'.al, o'.bt, o'.len, fun f m => o'.facts f (List.mem_cons_of_mem _ m), o'.slots⟩
/-- for x in range(n) -/
theorem go_range {ι : Type} {n : Int} (h : Ev W ta tInt n) (h1 : -(2 ^ 62) ≤ n) (h2 : n < 2 ^ 62) (J : Nat → ι → List RS × List (Option SF)) (Pv : Nat → ι → Prop) (c0 : ι) (p0 : Pv 0 c0) (w0 : Wk W { W with L := (J 0 c0).1, G := (J 0 c0).2 })
    (hs : ∀ k c, k < n.toNat → Pv k c → Go (Wd.at ⟨W.H0, W.M, W.S, (J k c).1, W.F, (J k c).2⟩ i (tInt.is (k : Int))) ts
      { D with nx := fun σ H => ∃ c', Pv (k + 1) c' ∧ Ok ⟨W.H0, W.M, W.S, (J (k + 1) c').1, W.F, (J (k + 1) c').2⟩ σ H, ct := fun σ H => ∃ c', Pv (k + 1) c' ∧ Ok ⟨W.H0, W.M, W.S, (J (k + 1) c').1, W.F, (J (k + 1) c').2⟩ σ H, bk := D.nx })
    (hd : ∀ c, Pv n.toNat c → ∀ σ H, Ok { W with L := (J n.toNat c).1, G := (J n.toNat c).2 } σ H → D.nx σ H) :
    Go W (tFor (iRng1 (tCons ta tNil)) (gName i) ts) D := fun σ H o => by
  refine h σ H o _ fun v H1 g r => ?_
  refine ⟨n, by rw [show v = .int n from r], h1, h2, ?_⟩
  refine for_range (lo := 0) (n := n.toNat) (fun k σ' H' => ∃ c, Pv k c ∧ Ok ⟨W.H0, W.M, W.S, (J k c).1, W.F, (J k c).2⟩ σ' H') ⟨c0, p0, w0 _ _ g.ok⟩ ?_ ?_
  · rintro k σ' H' hk ⟨c, pc, o'⟩
    exact hs k c hk pc _ _ (o'.put (v := .int (0 + (k : Int))) (by show V.int (0 + (k : Int)) = V.int (k : Int); rw [Int.zero_add]))
  · rintro σ' H' ⟨c, pc, o'⟩
    exact hd c pc _ _ o'
end
end Cs
set_option maxHeartbeats 4000000
namespace Cs
open PySem PySem.Spec PyProof.Rows L2
/-! ### lists that are made: comprehensions, appends -/
theorem wipe_set {σ : L2.St} {i : Nat} {x : Option V} : ∀ {vs : List Nat}, i ∈ vs → wipe (σ.set i x) vs = wipe σ vs
  | v :: vs, h => by
    unfold wipe
    by_cases e : i ∈ vs
    · rw [wipe_set e]
    · have : i = v := by
        rcases List.mem_cons.mp h with h | h
        · exact h
        · exact absurd h e
      subst this
      have key : ∀ (ws : List Nat), i ∉ ws → wipe (σ.set i x) ws = (wipe σ ws).set i x := by
        intro ws
        induction ws with
        | nil => intro _; rfl
        | cons w ws ih =>
          intro hn
          have h1 : i ≠ w := fun z => hn (z ▸ List.mem_cons_self ..)
          have h2 : i ∉ ws := fun z => hn (List.mem_cons_of_mem _ z)
          show (wipe (σ.set i x) ws).set w none = ((wipe σ ws).set w none).set i x
          rw [ih h2, List.set_comm _ _ (fun z => h1 z)]
      rw [key vs e, List.set_set]
theorem wipe_twice (σ : L2.St) (vs : List Nat) : wipe (wipe σ vs) vs = wipe σ vs := by
  have key : ∀ (ws us : List Nat), (∀ w ∈ ws, w ∈ us) → wipe (wipe σ ws) us = wipe σ us := by
    intro ws
    induction ws with
    | nil => intro us _; rfl
    | cons w ws ih =>
      intro us h
      show wipe ((wipe σ ws).set w none) us = _
      rw [wipe_set (h w (List.mem_cons_self ..)), ih us fun z hz => h z (List.mem_cons_of_mem _ hz)]
  exact key vs vs fun _ h => h
def wipeG (G : List (Option SF)) : List Nat → List (Option SF)
  | [] => G
  | v :: vs => (wipeG G vs).set v none
theorem wipeG_length (G : List (Option SF)) : ∀ vs : List Nat, (wipeG G vs).length = G.length
  | [] => rfl
  | v :: vs => by unfold wipeG; rw [List.length_set, wipeG_length G vs]
section
variable {α β γ : Type} {W W' : Wd} {K : PySem.W.Frag} {ta tb tc : TE} {t : Ty α} {u : Ty β} {x : α} {y : β} {tt uu : TT} {ar : TA} {fs : List SF} {ts us : TS} {D : Ends} {σ σ' : L2.St} {H H' : Hp} {i : Nat}
theorem Ok.none {j : Nat} (o : Ok W σ H) : Ok { W with G := W.G.set j Option.none } (σ.set j Option.none) H :=
  ⟨o.nod, o.own, o.at_, o.ms, o.al, o.bt, by show (σ.set j Option.none).length = (W.G.set j Option.none).length; rw [List.length_set, List.length_set]; exact o.len, o.facts, fun k g q => by
    have q : (W.G.set j Option.none)[k]? = some (some g) := q
    by_cases e : j = k
    · subst e
      by_cases l : j < W.G.length
      · rw [List.getElem?_set, if_pos rfl, if_pos l] at q; cases q
      · rw [List.getElem?_set, if_pos rfl, if_neg l] at q; cases q
    · rw [List.getElem?_set, if_neg e] at q
      obtain ⟨w, h1, h2⟩ := o.slots k g q
      exact ⟨w, by rw [List.getElem?_set, if_neg e]; exact h1, h2⟩⟩
theorem Ok.wipe : ∀ {vs : List Nat}, Ok W σ H → Ok { W with G := wipeG W.G vs } (L2.wipe σ vs) H
  | [], o => o
  | v :: vs, o => Ok.none (W := { W with G := wipeG W.G vs }) (Ok.wipe (vs := vs) o)
/-- the same world, other slots: what was known of the slots stays -/
theorem Ok.swap {G' : List (Option SF)} (o : Ok W σ H) (o' : Ok { W with G := G' } σ' H') (up : Same (hid W.S H) (hid W.S H')) : Ok W σ H' :=
  ⟨o.nod, o.own, o'.at_, o.ms, o'.al, o'.bt, o.len, o'.facts, fun i f q => by
    obtain ⟨v, h1, h2⟩ := o.slots i f q
    exact ⟨v, h1, f.mono up h2⟩⟩
/-- all that is to be read in H1 -/
def ffS (G : Hp) : FF := ⟨fun H => Same G H, fun e h => h.trans e⟩
/-- a thing is read only from now on -/
theorem Ok.drop {r : RS} {N S : List Addr} {L : List RS} {H0 : Hp} {M : List Addr} {F : List FF} {G : List (Option SF)} (o : Ok ⟨H0, M, N ++ S, r :: L, F, G⟩ σ H) (hS : ∀ a, a ∈ fps L → a ∈ S) (hM : ∀ a ∈ M, a ∈ S) : Ok ⟨H0, M, S, L, F, G⟩ σ H := by
  have up : Same (hid (N ++ S) H) (hid S H) := hid_less fun a h => List.mem_append_right _ h
  have nd : (fps ([r] ++ L)).Nodup := o.nod
  exact ⟨(nodup_app.mp nd).2.1, fun a m => ⟨hS a m, (o.own a (by obtain ⟨q, m1, m2⟩ := of_fps m; exact mem_fps (List.mem_cons_of_mem _ m1) m2)).2⟩, fun q m => q.mono up (o.at_ q (List.mem_cons_of_mem _ m)), hM, fun a m => o.al a (List.mem_append_right _ m), o.bt, o.len, fun f m => f.mono up (o.facts f m), fun j f q => by
      obtain ⟨v, h1, h2⟩ := o.slots j f q
      exact ⟨v, h1, f.mono up h2⟩⟩
theorem ok_sub {W : Wd} (o : Ok W σ H) : ∀ a, a ∈ fps W.L → a ∈ W.S := fun a m => (o.own a m).1
theorem filterMap_snoc (p : α → Bool) (g : α → β) (xs : List α) (x : α) : ((xs ++ [x]).filter p).map g = (xs.filter p).map g ++ (if p x = true then [g x] else []) := by
  rw [List.filter_append, List.map_append]
  congr 1
  cases h : p x <;> simp [h]
theorem take_snoc {xs : List α} {k : Nat} {x : α} (h : xs[k]? = some x) : xs.take (k + 1) = xs.take k ++ [x] := by
  rw [List.take_add_one, h]; rfl
/-- the world of a comprehension's element -/
def Wd.el (W : Wd) (D : Addr) (φ : CF) (F : List FF) (vs : List Nat) : Wd := ⟨W.H0, W.M, D :: W.S, cell D φ :: W.L, F, wipeG W.G vs⟩
/-- [te for x in ta if tt] -/
theorem ev_lc {xs : List α} {p : α → Bool} {g : α → β} {vs : List Nat} (h : Ev W ta (tLs K t) xs) (hi : i ∈ vs) (hl : xs.length < sizeLine)
    (ht : ∀ D φ F x, (∀ f ∈ W.F, f ∈ F) → x ∈ xs → Et ((W.el D φ F vs).at i (t.is x)) tt (p x))
    (he : ∀ D φ F x, (∀ f ∈ W.F, f ∈ F) → x ∈ xs → p x = true → Ev ((W.el D φ F vs).at i (t.is x)) tb u (g x)) : Ev W (tLc (iList K ta) (gName i) tt tb vs) (tLs K u) ((xs.filter p).map g) := fun σ H o Q q => by
  refine h σ H o _ fun v H1 g1 r => ?_
  obtain ⟨a, ws, rfl, hq, al⟩ := r
  refine ⟨a, rfl, ⟨ws, SqL.of (hid_sub _ _ hq)⟩, fun D nD => ?_⟩
  have hlen := al.length
  let Wk : Nat → Wd := fun k => ⟨W.H0, W.M, D :: W.S, cell D (cLs u (((xs.take k).filter p).map g)) :: W.L, ffL K t a ws xs :: ffS (hid W.S H1) :: W.F, W.G⟩
  have start : Ok (Wk 0) σ (upd H1 D (.lst [])) := by
    obtain ⟨o1, up⟩ := g1.ok.cell (ψ := cLs u ([] : List β)) nD ⟨[], rfl, trivial⟩
    exact Ok.know (Ok.know o1 (f := ffS (hid W.S H1)) up) (f := ffL K t a ws xs) ⟨SqL.of (up _ _ hq), All2.mono (fun _ _ => t.mono up) al⟩
  have len : ∀ k, (((xs.take k).filter p).map g).length ≤ xs.length := fun k => by
    rw [List.length_map]
    exact Nat.le_trans (List.length_filter_le ..) (by rw [List.length_take]; omega)
  refine lc_list (K := K) (a := a) (xs := ws) (fun k H' => Ok (Wk k) σ H') start (fun k H' _ o' => hid_sub.seq (o'.facts (ffL K t a ws xs) (List.mem_cons_self ..)).1) ?_ ?_
  · rintro k w H' hw o'
    obtain ⟨_, al'⟩ := o'.facts (ffL K t a ws xs) (List.mem_cons_self ..)
    obtain ⟨x, hx, rx⟩ := al'.getV hw
    have xm := List.mem_of_getElem? hx
    refine ⟨by rw [wipe_set hi, wipe_twice], ?_⟩
    have oe : Ok (((W.el D (cLs u (((xs.take k).filter p).map g)) (ffL K t a ws xs :: ffS (hid W.S H1) :: W.F) vs).at i (t.is x))) ((wipe σ vs).set i (some w)) H' := (Ok.wipe (vs := vs) o').put rx
    have sub : ∀ f ∈ W.F, f ∈ ffL K t a ws xs :: ffS (hid W.S H1) :: W.F := fun f m => List.mem_cons_of_mem _ (List.mem_cons_of_mem _ m)
    refine ht D _ _ x sub xm _ _ oe _ fun H2 g2 => ?_
    cases hp : p x with
    | false =>
      refine iteF ?_
      have o2 : Ok (Wk k) σ H2 := Ok.swap (W := Wk k) o' (Ok.swap (W := { Wk k with G := wipeG W.G vs }) (Ok.wipe (vs := vs) o') g2.ok g2.up) g2.up
      show Ok (Wk (k + 1)) σ H2
      have e : ((xs.take (k + 1)).filter p).map g = ((xs.take k).filter p).map g := by rw [take_snoc hx, filterMap_snoc, hp]; simp
      show Ok ⟨W.H0, W.M, D :: W.S, cell D (cLs u (((xs.take (k + 1)).filter p).map g)) :: W.L, ffL K t a ws xs :: ffS (hid W.S H1) :: W.F, W.G⟩ σ H2
      rw [e]
      exact o2
    | true =>
      refine iteT ?_
      refine he D _ _ x sub xm hp _ _ g2.ok _ fun y H3 g3 ry => ?_
      have g23 := g2.trans g3
      have o3 : Ok (Wk k) σ H3 := Ok.swap (W := Wk k) o' (Ok.swap (W := { Wk k with G := wipeG W.G vs }) (Ok.wipe (vs := vs) o') g23.ok g23.up) g23.up
      obtain ⟨ob, hob, us, rfl, hus⟩ := o3.at_ _ (List.mem_cons_self ..)
      refine ⟨us, hob, ?_, ?_⟩
      · rw [hus.length]
        exact Nat.lt_of_le_of_lt (len k) hl
      · have e : ((xs.take (k + 1)).filter p).map g = ((xs.take k).filter p).map g ++ [g x] := by rw [take_snoc hx, filterMap_snoc, hp]; simp
        have := (o3.write (ψ := cLs u (((xs.take (k + 1)).filter p).map g)) (o := .lst (us ++ [y])) rfl ⟨_, rfl, by rw [e]; exact hus.app (ws := [y]) (ys := [g x]) ⟨ry, trivial⟩⟩).ok
        exact this
  · intro H' o'
    have e : xs.take ws.length = xs := by rw [hlen, List.take_length]
    have o2 : Ok ⟨W.H0, W.M, D :: W.S, cell D (cLs u ((xs.filter p).map g)) :: W.L, ffL K t a ws xs :: ffS (hid W.S H1) :: W.F, W.G⟩ σ H' := by
      have : Ok (Wk ws.length) σ H' := o'
      have e2 : Wk ws.length = ⟨W.H0, W.M, D :: W.S, cell D (cLs u ((xs.filter p).map g)) :: W.L, ffL K t a ws xs :: ffS (hid W.S H1) :: W.F, W.G⟩ := by
        show (⟨W.H0, W.M, D :: W.S, cell D (cLs u (((xs.take ws.length).filter p).map g)) :: W.L, ffL K t a ws xs :: ffS (hid W.S H1) :: W.F, W.G⟩ : Wd) = _
        rw [e]
      rw [e2] at this
      exact this
    obtain ⟨ob, hob, us, rfl, hus⟩ := o2.at_ _ (List.mem_cons_self ..)
    have up := o2.facts (ffS (hid W.S H1)) (List.mem_cons_of_mem _ (List.mem_cons_self ..))
    have less : Same (hid (D :: W.S) H') (hid W.S H') := hid_less fun a h => List.mem_cons_of_mem _ h
    have o3 := Ok.drop (N := [D]) o2 (ok_sub g1.ok) g1.ok.ms
    have o4 : Ok W σ H' := ⟨o3.nod, o3.own, o3.at_, o3.ms, o3.al, o3.bt, o3.len, fun f m => o3.facts f (List.mem_cons_of_mem _ (List.mem_cons_of_mem _ m)), o3.slots⟩
    refine q _ _ (g1.trans ⟨o4, up.trans less⟩) ⟨D, us, rfl, ?_, All2.mono (fun _ _ => u.mono less) hus⟩
    rw [hid_of (g1.ok.off nD)]
    exact hob
theorem et_yes : Et W tYes true := fun σ H o Q q => q H (Go1.refl o)
theorem filter_yes (xs : List α) : xs.filter (fun _ => true) = xs := List.filter_eq_self.mpr fun _ _ => rfl
/-- [te for x in ta] -/
theorem ev_lc0 {xs : List α} {g : α → β} {vs : List Nat} (h : Ev W ta (tLs K t) xs) (hi : i ∈ vs) (hl : xs.length < sizeLine)
    (he : ∀ D φ F x, (∀ f ∈ W.F, f ∈ F) → x ∈ xs → Ev ((W.el D φ F vs).at i (t.is x)) tb u (g x)) : Ev W (tLc (iList K ta) (gName i) tYes tb vs) (tLs K u) (xs.map g) :=
  ev_is (ev_lc (p := fun _ => true) h hi hl (fun _ _ _ _ _ _ => et_yes) fun D φ F x hF hx _ => he D φ F x hF hx) (by rw [filter_yes])
/-- a display of a list -/
theorem ev_nil : Ev W (tLst tNil) (tLs K t) [] := fun σ H o Q q => ⟨Nat.zero_le _, fun p np => q _ _ (o.new np) ⟨p, [], rfl, (by rw [hid_of (o.off np)]; exact upd_same), trivial⟩⟩
/-- arguments that are all of one kind -/
def El (W : Wd) (ar : TA) (t : Ty α) (xs : List α) : Prop := ∀ σ H, Ok W σ H → ∀ Q : List V → Hp → Prop, (∀ vs H', Go1 W σ H H' → All2 (t.r (hid W.S H')) vs xs → Q vs H') → ar σ H Q
theorem el_nil : El W tNil t [] := fun σ H o Q q => q [] H (Go1.refl o) trivial
theorem el_cons {xs : List α} (ha : Ev W ta t x) (hr : El W ar t xs) : El W (tCons ta ar) t (x :: xs) := fun σ H o Q q =>
  ha σ H o _ fun v H1 g1 r1 => hr σ H1 g1.ok _ fun vs H2 g2 r2 => q (v :: vs) H2 (g1.trans g2) ⟨t.mono g2.up r1, r2⟩
theorem ev_lst {xs : List α} (h : El W ar t xs) (hl : xs.length ≤ sizeLine := by decide) : Ev W (tLst ar) (tLs K t) xs := fun σ H o Q q =>
  h σ H o _ fun vs H1 g1 r1 => ⟨by rw [r1.length]; exact hl, fun p np => q _ _ (g1.trans (g1.ok.new np)) ⟨p, vs, rfl, (by rw [hid_of (g1.ok.off np)]; exact upd_same), All2.mono (fun _ _ => t.mono (g1.ok.new np).up) r1⟩⟩
/-- out = [..], a list that is changed later -/
theorem go_new {xs : List α} (h : El W ar t xs) (hl : xs.length ≤ sizeLine := by decide) (k : ∀ p, Go ⟨W.H0, W.M, p :: W.S, cell p (cLs t xs) :: W.L, W.F, W.G.set i (some (tRf.is p))⟩ us D) : Go W (tSeq (tAsg (tLst ar) (gName i)) us) D := fun σ H o =>
  h σ H o _ fun vs H1 g1 r1 => ⟨by rw [r1.length]; exact hl, fun p np => k p _ _ (Ok.put (i := i) (f := tRf.is p) (g1.ok.cell (ψ := cLs t xs) np ⟨vs, rfl, r1⟩).1 rfl)⟩
theorem ok_new {p : Addr} {σ : L2.St} {H : Hp} (o : Ok W σ H) (np : H p = none) : Ok ⟨W.H0, W.M, p :: W.S, cell p (cLs t []) :: W.L, W.F, W.G.set i (some (tRf.is p))⟩ (σ.set i (some (.ref p))) (upd H p (.lst [])) :=
  Ok.put (i := i) (f := tRf.is p) (o.cell (ψ := cLs t []) np ⟨[], rfl, trivial⟩).1 rfl
/-- xs.append(e) -/
theorem go_app {p : Addr} {xs : List α} {R : List RS} (hp : W.G[i]? = some (some (tRf.is p))) (hL : W.L.Perm (cell p (cLs t xs) :: R)) (ha : Ev W ta t x) (hl : xs.length < sizeLine) (k : Go { W with L := cell p (cLs t (xs ++ [x])) :: R } us D) :
    Go W (tSeq (tDrop (tBM K "list" rAppend (tVar i) (tCons ta tNil))) us) D := fun σ H o => by
  obtain ⟨v, h1, h2⟩ := o.slots i _ hp
  obtain rfl : v = .ref p := h2
  have mem : cell p (cLs t xs) ∈ W.L := hL.mem_iff.mpr (List.mem_cons_self ..)
  obtain ⟨ob, hob, vs, rfl, _⟩ := o.at_ _ mem
  refine ⟨.ref p, h1, .inl ⟨rfl, vs, SqL.of hob⟩, ?_⟩
  refine ha σ H o _ fun y H1 g1 ry => ?_
  obtain ⟨ob, hob, ws, rfl, al⟩ := g1.ok.at_ _ mem
  exact ⟨p, ws, y, rfl, rfl, hob, by rw [al.length]; exact hl, k _ _ ((g1.ok.perm hL).write (ψ := cLs t (xs ++ [x])) rfl ⟨_, rfl, al.app (ws := [y]) (ys := [x]) ⟨ry, trivial⟩⟩).ok⟩
theorem go_app1 {p : Addr} {xs : List α} {R : List RS} (hp : W.G[i]? = some (some (tRf.is p))) (hL : W.L.Perm (cell p (cLs t xs) :: R)) (ha : Ev W ta t x) (hl : xs.length < sizeLine) (k : ∀ σ H, Ok { W with L := cell p (cLs t (xs ++ [x])) :: R } σ H → D.nx σ H) :
    Go W (tDrop (tBM K "list" rAppend (tVar i) (tCons ta tNil))) D := go_app (us := fun D σ H => D.nx σ H) hp hL ha hl k
theorem set_self {σ : L2.St} {v : V} (h1 : σ[i]? = some (some v)) : σ.set i (some v) = σ := by
  have l : i < σ.length := (List.getElem?_eq_some_iff.mp h1).1
  apply List.ext_getElem?
  intro j
  rw [List.getElem?_set]
  by_cases e : i = j
  · subst e; rw [if_pos rfl, if_pos l, h1]
  · rw [if_neg e]
/-- the list is done: it is read only -/
theorem go_frz {p : Addr} {xs : List α} {S : List Addr} {L : List RS} {H0 : Hp} {M : List Addr} {F : List FF} {G : List (Option SF)} (hp : G[i]? = some (some (tRf.is p))) (hM : ∀ a ∈ M, a ∈ S) (hn : p ∉ S) (hS : ∀ a, a ∈ fps L → a ∈ S)
    (k : Go ⟨H0, M, S, L, F, G.set i (some ((tLs K t).is xs))⟩ ts D) : Go ⟨H0, M, p :: S, cell p (cLs t xs) :: L, F, G⟩ ts D := fun σ H o => by
  obtain ⟨v, h1, h2⟩ := o.slots i _ hp
  obtain rfl : v = .ref p := h2
  obtain ⟨ob, hob, vs, rfl, al⟩ := o.at_ _ (List.mem_cons_self ..)
  have o2 := Ok.drop (N := [p]) o hS hM
  have up : Same (hid (p :: S) H) (hid S H) := hid_less fun a h => List.mem_cons_of_mem _ h
  have o3 := Ok.put (i := i) (v := .ref p) (f := (tLs K t).is xs) o2 ⟨p, vs, rfl, (by rw [hid_of hn]; exact hob), All2.mono (fun _ _ => t.mono up) al⟩
  rw [set_self h1] at o3
  exact k σ H o3
end
end Cs
set_option maxHeartbeats 4000000
namespace Cs
open PySem PySem.Spec PyProof.Rows L2
/-! ### the deck, its list told -/
def DeckA (K : PySem.W.Frag) (H : Hp) (d l : Addr) (ns : List Int) : Prop := ∃ b c e : Int, H d = some (DeckO l b c e) ∧ SqL K H l (ns.map V.int) ∧ l ≠ d ∧ 0 ≤ b
theorem deckA_of {K : PySem.W.Frag} {H H1 : Hp} {d l : Addr} {ns : List Int} {b c e : Int} (hl : SqL K H l (ns.map V.int)) (ne : l ≠ d) (hb : But d H H1) (h : H1 d = some (DeckO l b c e)) (b0 : 0 ≤ b) : DeckA K H1 d l ns := ⟨b, c, e, h, hb.seq ne hl, ne, b0⟩
def spDeckA (K : PySem.W.Frag) : Sp := fun vs H Q _ => ∃ (a : Addr) (ns : List Int), vs = [.ref a] ∧ SqL K H a (ns.map V.int) ∧ ∀ d l H', Same H H' → H d = none → DeckA K H' d l ns → Q (.ref d) H'
def spDrawA (K : PySem.W.Frag) : Sp := fun vs H Q _ => ∃ (d : Addr) (m : Int) (l : Addr) (ns : List Int), vs = [.ref d, .int m] ∧ 0 < m ∧ m.natAbs < 2 ^ 8000 ∧ DeckA K H d l ns ∧ ∀ v H', 0 ≤ v → v < m → But d H H' → DeckA K H' d l ns → Q (.int v) H'
/-! ### equality of data -/
structure Eqt (K : PySem.W.Frag) {α : Type} (t : Ty α) where
  d : α → PyData
  n : Nat
  dp : ∀ {H : Hp} {v : V} {x : α}, t.r H v x → Dp K H v (d x)
  dep : ∀ x, (d x).depth ≤ n
  inj : ∀ x y, PyData.eqv (d x) (d y) = true ↔ x = y
section
variable {K : PySem.W.Frag} {α : Type} {t : Ty α}
theorem Eqt.dec [DecidableEq α] (q : Eqt K t) (x y : α) : PyData.eqv (q.d x) (q.d y) = decide (x = y) := by
  rw [Bool.eq_iff_iff, q.inj, decide_eq_true_iff]
theorem Eqt.shape (q : Eqt K t) (hn : q.n ≤ 64) {x : α} (l : (q.d x).canLay0 = true) : SeqAt.shaped (q.d x) = true := by
  unfold SeqAt.shaped
  rw [l, decide_eq_true (Nat.le_trans (q.dep x) hn)]
  rfl
def eqInt : Eqt K tInt := ⟨.int, 0, fun h => by rw [show _ = V.int _ from h]; exact .int _, fun _ => by simp [PyData.depth], fun x y => by simp [PyData.eqv]⟩
def eqSt : Eqt K tSt := ⟨.str, 0, fun h => by rw [show _ = V.str _ from h]; exact .str _, fun _ => by simp [PyData.depth], fun x y => by simp [PyData.eqv]⟩
theorem rat_eq {x y : Rat} (h1 : x.num = y.num) (h2 : (x.den : Int) = y.den) : x = y := by
  have : x.den = y.den := by omega
  exact Rat.ext h1 this
def eqFr : Eqt K (tFr K) := ⟨fun r => .tuple [.int r.num, .int r.den], 1, fun ⟨p, e, h⟩ => by rw [e]; exact .tup h (.cons (.int _) (.cons (.int _) .nil)), fun _ => by simp [PyData.depth, PyData.depthAll], fun x y => by
  simp only [PyData.eqv, PyData.eqvAll, Bool.and_true, Bool.and_eq_true, beq_iff_eq]
  exact ⟨fun ⟨a, b⟩ => rat_eq a b, fun e => by rw [e]; exact ⟨rfl, rfl⟩⟩⟩
theorem dpAll_of {H : Hp} (q : Eqt K t) : ∀ {vs : List V} {xs : List α}, All2 (t.r H) vs xs → DpAll K H vs (xs.map q.d)
  | [], [], _ => .nil
  | _ :: _, _ :: _, ⟨a, b⟩ => .cons (q.dp a) (dpAll_of q b)
  | [], _ :: _, h => h.elim
  | _ :: _, [], h => h.elim
theorem depAll_of (q : Eqt K t) : ∀ xs : List α, PyData.depthAll (xs.map q.d) ≤ q.n
  | [] => by simp [PyData.depthAll]
  | x :: xs => by
    have := depAll_of q xs
    have := q.dep x
    simp only [List.map_cons, PyData.depthAll]
    omega
theorem eqvAll_of (q : Eqt K t) : ∀ xs ys : List α, PyData.eqvAll (xs.map q.d) (ys.map q.d) = true ↔ xs = ys
  | [], [] => by simp [PyData.eqvAll]
  | [], _ :: _ => by simp [PyData.eqvAll]
  | _ :: _, [] => by simp [PyData.eqvAll]
  | x :: xs, y :: ys => by
    simp only [List.map_cons, PyData.eqvAll, Bool.and_eq_true, q.inj, eqvAll_of q xs ys, List.cons.injEq]
def eqLs (q : Eqt K t) : Eqt K (tLs K t) := ⟨fun xs => .list (xs.map q.d), q.n + 1, fun ⟨p, vs, e, h, a⟩ => by rw [e]; exact .lst (SqL.of h) (dpAll_of q a), fun xs => by
  have := depAll_of q xs
  simp only [PyData.depth]
  omega, fun x y => by
  simp only [PyData.eqv]
  exact eqvAll_of q x y⟩
theorem layAll_of (q : Eqt K t) : ∀ xs : List α, (∀ x ∈ xs, (q.d x).canLay0 = true) → PyData.canLayAll0 (xs.map q.d) = true
  | [], _ => by simp [PyData.canLayAll0]
  | x :: xs, h => by
    simp only [List.map_cons, PyData.canLayAll0, Bool.and_eq_true]
    exact ⟨h x (List.mem_cons_self ..), layAll_of q xs fun y m => h y (List.mem_cons_of_mem _ m)⟩
theorem lay_ls (q : Eqt K t) {xs : List α} (h : ∀ x ∈ xs, (q.d x).canLay0 = true) : ((eqLs q).d xs).canLay0 = true := by
  show (PyData.list (xs.map q.d)).canLay0 = true
  simp only [PyData.canLay0]
  exact layAll_of q xs h
theorem lay_int (x : Int) : ((eqInt (K := K)).d x).canLay0 = true := by show (PyData.int x).canLay0 = true; simp [PyData.canLay0]
theorem lay_fr (x : Rat) : ((eqFr (K := K)).d x).canLay0 = true := by show (PyData.tuple [.int x.num, .int x.den]).canLay0 = true; simp [PyData.canLay0, PyData.canLayAll0]
end
theorem dp_mono {K : PySem.W.Frag} {H H' : Hp} (e : Same H H') {v : V} {d : PyData} (h : Dp K H v d) : Dp K H' v d := by
  have key : (∀ {v : V} {d : PyData}, Dp K H v d → Dp K H' v d) := by
    intro v d h
    exact Dp.rec (motive_1 := fun v d _ => Dp K H' v d) (motive_2 := fun vs ds _ => DpAll K H' vs ds) .non (fun b => .bl b) (fun i => .int i) (fun x => .str x) (fun s _ ih => .lst (e.seq s) ih) (fun s _ ih => .tup (sqT_mono e s) ih) .nil (fun _ _ a b => .cons a b) h
  exact key h
/-! ### more kinds -/
/-- an instance of the class at C with such attributes, read only -/
def FldAt (H : Hp) (fs : List (Str × V)) (flds : List (Str × SF)) : Prop := ∀ n f, (n, f) ∈ flds → ∃ u, fs.lookup n = some u ∧ f.p H u
def tOb (C : Addr) {α : Type} (flds : α → List (Str × SF)) : Ty α := ⟨fun H v x => ∃ a dx fs, v = .ref a ∧ H a = some (.ins C dx fs) ∧ FldAt H fs (flds x), fun e ⟨a, dx, fs, h, g, k⟩ => ⟨a, dx, fs, h, e _ _ g, fun n f m => by
  obtain ⟨u, h1, h2⟩ := k n f m
  exact ⟨u, h1, f.mono e h2⟩⟩⟩
/-- None or something that is not -/
def tOpt {α : Type} (t : Ty α) : Ty (Option α) := ⟨fun H v x => match x with
  | none => v = .non
  | some y => t.r H v y ∧ v ≠ .non, fun {H H' v x} e h => by
  cases x with
  | none => exact h
  | some y => exact ⟨t.mono e h.1, h.2⟩⟩
/-- a dict that is used as a set of names -/
def cKeys (ks : List Str) : CF := ⟨fun _ o => ∃ kvs, o = .dK kvs ∧ kvs.length ≤ ks.length ∧ ∀ z : Str, (valV kvs (Sum.inr z)).isSome = decide (z ∈ ks), fun _ h => h⟩
def cDeck (K : PySem.W.Frag) (l : Addr) (ns : List Int) : CF := ⟨fun F o => ∃ b c e, o = DeckO l b c e ∧ SqL K F l (ns.map V.int) ∧ 0 ≤ b, fun e ⟨b, c, f, h, g, k⟩ => ⟨b, c, f, h, e.seq g, k⟩⟩
/-! ### tests of several answers -/
def Etx (W : Wd) (tt : TT) (P : Bool → Prop) : Prop := ∀ σ H, Ok W σ H → ∀ Q : Bool → Hp → Prop, (∀ b H', P b → Go1 W σ H H' → Q b H') → tt σ H Q
section
variable {α β γ : Type} {W : Wd} {K : PySem.W.Frag} {ta tb tc : TE} {t : Ty α} {u : Ty β} {x x' : α} {y : β} {tt uu : TT} {ar : TA} {fs : List SF} {i j : Int} {E : XK} {ts us : TS} {D : Ends} {k : Nat} {z z' : Str}
theorem Et.toX {b : Bool} {P : Bool → Prop} (h : Et W tt b) (p : P b) : Etx W tt P := fun σ H o Q q => h σ H o Q fun H' g => q b H' p g
theorem Etx.any {P : Bool → Prop} (h : Etx W tt P) : Etx W tt fun _ => True := fun σ H o Q q => h σ H o Q fun b H' _ g => q b H' trivial g
theorem etx_and {P P' : Bool → Prop} (h : Etx W tt P) (g : Etx W uu P') : Etx W (tAnd tt uu) (fun b => if b = true then P true ∧ P' true else P false ∨ P' false) := fun σ H o Q q => h σ H o _ fun b H1 p g1 => by
  cases b with
  | true =>
    show uu σ H1 Q
    refine g σ H1 g1.ok Q fun c H2 p2 g2 => q c H2 ?_ (g1.trans g2)
    cases c with
    | true => exact ⟨p, p2⟩
    | false => exact .inr p2
  | false => exact q false H1 (.inl p) g1
theorem etx_eqI {P : Int → Prop} (ha : Evx W ta tInt P) (hb : Ev W tb tInt j) : Etx W (tTest (tOp rEq ta tb)) fun b => ∃ i, P i ∧ b = decide (i = j) := fun σ H o Q q =>
  ha σ H o _ fun v i H1 p g1 r1 => hb σ H1 g1.ok _ fun v2 H2 g2 r2 => by
    obtain rfl : v = .int i := r1
    obtain rfl : v2 = .int j := r2
    exact ⟨rfl, _, rfl, q _ H2 ⟨i, p, by simp⟩ (g1.trans g2)⟩
theorem etx_cmp {P : Int → Prop} {g : Int → Int → Bool} (ha : Evx W ta tInt P) (hb : Ev W tb tInt j) : Etx W (tTest (tOp (rI0 fun i j => .bl (g i j)) ta tb)) fun b => ∃ i, P i ∧ b = g i j := fun σ H o Q q =>
  ha σ H o _ fun v i H1 p g1 r1 => hb σ H1 g1.ok _ fun v2 H2 g2 r2 => ⟨i, j, r1, r2, _, rfl, q _ H2 ⟨i, p, rfl⟩ (g1.trans g2)⟩
theorem evx_eqI {P : Int → Prop} (ha : Evx W ta tInt P) (hb : Ev W tb tInt j) : Evx W (tOp rEq ta tb) tBl fun b => ∃ i, P i ∧ b = decide (i = j) := fun σ H o Q q =>
  ha σ H o _ fun v i H1 p g1 r1 => hb σ H1 g1.ok _ fun v2 H2 g2 r2 => by
    obtain rfl : v = .int i := r1
    obtain rfl : v2 = .int j := r2
    exact ⟨rfl, q _ (decide (i = j)) H2 ⟨i, p, rfl⟩ (g1.trans g2) (by show V.bl _ = V.bl _; simp)⟩
theorem evx_add {P P' : Int → Prop} (ha : Evx W ta tInt P) (hb : Evx W tb tInt P') : Evx W (tOp (rI0 fun i j => .int (i + j)) ta tb) tInt (fun s => ∃ i j, P i ∧ P' j ∧ s = i + j) := fun σ H o Q q =>
  ha σ H o _ fun v i H1 p g1 r1 => hb σ H1 g1.ok _ fun v2 j H2 p2 g2 r2 => ⟨i, j, r1, r2, q _ _ H2 ⟨i, j, p, p2, rfl⟩ (g1.trans g2) rfl⟩
theorem Evx.imp {P P' : α → Prop} (h : Evx W ta t P) (e : ∀ x, P x → P' x) : Evx W ta t P' := fun σ H o Q q => h σ H o Q fun v x H' p g r => q v x H' (e x p) g r
theorem Etx.imp {P P' : Bool → Prop} (h : Etx W tt P) (e : ∀ x, P x → P' x) : Etx W tt P' := fun σ H o Q q => h σ H o Q fun b H' p g => q b H' (e b p) g
/-- int(a bool) -/
theorem evx_intB {P : Bool → Prop} (h : Evx W ta tBl P) : Evx W (tCB (fun xs H Q => (∃ i, xs = [.int i] ∧ Q (.int i) H) ∨ ∃ k, xs = [.bl k] ∧ Q (.int (if k then 1 else 0)) H) (tCons ta tNil)) tInt fun i => ∃ b, P b ∧ i = if b then 1 else 0 := fun σ H o Q q =>
  h σ H o _ fun v b H1 p g1 e => .inr ⟨b, by rw [show v = .bl b from e], q _ _ H1 ⟨b, p, rfl⟩ g1 rfl⟩
theorem ev_intB {b : Bool} (h : Ev W ta tBl b) : Ev W (tCB (fun xs H Q => (∃ i, xs = [.int i] ∧ Q (.int i) H) ∨ ∃ k, xs = [.bl k] ∧ Q (.int (if k then 1 else 0)) H) (tCons ta tNil)) tInt (if b then 1 else 0) := fun σ H o Q q =>
  h σ H o _ fun v H1 g1 e => .inr ⟨b, by rw [show v = .bl b from e], q _ H1 g1 rfl⟩
/-! ### comparisons -/
theorem ev_eqI (ha : Ev W ta tInt i) (hb : Ev W tb tInt j) : Ev W (tOp rEq ta tb) tBl (decide (i = j)) := fun σ H o Q q =>
  ha σ H o _ fun v H1 g1 r1 => hb σ H1 g1.ok _ fun v2 H2 g2 r2 => by
    obtain rfl : v = .int i := r1
    obtain rfl : v2 = .int j := r2
    exact ⟨rfl, q _ H2 (g1.trans g2) (by show V.bl _ = V.bl _; simp)⟩
theorem ev_neI (ha : Ev W ta tInt i) (hb : Ev W tb tInt j) : Ev W (tOp rNe ta tb) tBl (!decide (i = j)) := fun σ H o Q q =>
  ha σ H o _ fun v H1 g1 r1 => hb σ H1 g1.ok _ fun v2 H2 g2 r2 => by
    obtain rfl : v = .int i := r1
    obtain rfl : v2 = .int j := r2
    exact ⟨rfl, q _ H2 (g1.trans g2) (by show V.bl _ = V.bl _; simp)⟩
theorem ev_eqS (ha : Ev W ta tSt z) (hb : Ev W tb tSt z') : Ev W (tOp rEq ta tb) tBl (decide (z = z')) := fun σ H o Q q =>
  ha σ H o _ fun v H1 g1 r1 => hb σ H1 g1.ok _ fun v2 H2 g2 r2 => by
    obtain rfl : v = .str z := r1
    obtain rfl : v2 = .str z' := r2
    exact ⟨rfl, q _ H2 (g1.trans g2) (by show V.bl _ = V.bl _; simp)⟩
theorem ev_neS (ha : Ev W ta tSt z) (hb : Ev W tb tSt z') : Ev W (tOp rNe ta tb) tBl (!decide (z = z')) := fun σ H o Q q =>
  ha σ H o _ fun v H1 g1 r1 => hb σ H1 g1.ok _ fun v2 H2 g2 r2 => by
    obtain rfl : v = .str z := r1
    obtain rfl : v2 = .str z' := r2
    exact ⟨rfl, q _ H2 (g1.trans g2) (by show V.bl _ = V.bl _; simp)⟩
theorem ev_eqD [DecidableEq α] (e : Eqt K t) (ha : Ev W ta t x) (hb : Ev W tb t x') (l1 : (e.d x).canLay0 = true) (l2 : (e.d x').canLay0 = true) (hn : e.n ≤ 64 := by decide) : Ev W (tOp (rEqD K) ta tb) tBl (decide (x = x')) := fun σ H o Q q =>
  ha σ H o _ fun v H1 g1 r1 => hb σ H1 g1.ok _ fun v2 H2 g2 r2 => ⟨e.d x, e.d x', dp_mono hid_sub (e.dp (t.mono g2.up r1)), dp_mono hid_sub (e.dp r2), e.shape hn l1, e.shape hn l2, by rw [e.dec]; exact q _ H2 (g1.trans g2) rfl⟩
theorem ev_neD [DecidableEq α] (e : Eqt K t) (ha : Ev W ta t x) (hb : Ev W tb t x') (l1 : (e.d x).canLay0 = true) (l2 : (e.d x').canLay0 = true) (hn : e.n ≤ 64 := by decide) : Ev W (tOp (rNeD K) ta tb) tBl (!decide (x = x')) := fun σ H o Q q =>
  ha σ H o _ fun v H1 g1 r1 => hb σ H1 g1.ok _ fun v2 H2 g2 r2 => ⟨e.d x, e.d x', dp_mono hid_sub (e.dp (t.mono g2.up r1)), dp_mono hid_sub (e.dp r2), e.shape hn l1, e.shape hn l2, by rw [e.dec]; exact q _ H2 (g1.trans g2) rfl⟩
/-- e is None -/
theorem et_isN {x : Option α} (h : Ev W ta (tOpt t) x) : Et W (tTest (tOp (fun x y H Q => y = .non ∧ Q (.bl (decide (x = .non))) H) ta (tC .non))) x.isNone := fun σ H o Q q =>
  h σ H o _ fun v H1 g1 r1 => ⟨rfl, _, rfl, by
    have : decide (v = .non) = x.isNone := by
      cases x with
      | none => rw [show v = .non from r1]; rfl
      | some y => exact decide_eq_false r1.2
    rw [this]
    exact q H1 g1⟩
theorem ev_some (h : Ev W ta (tOpt t) (some x)) : Ev W ta t x := ev_to h fun _ _ r => r.1
/-- a name among names -/
theorem inV_str {H : Hp} {vs : List V} {xs : List Str} (h : All2 (tSt.r H) vs xs) : inV (.str z) vs = decide (z ∈ xs) := by
  rw [All2.toMap V.str (fun v x e => e) h]
  clear h
  induction xs with
  | nil => rfl
  | cons y ys ih =>
    show (eqV (V.str y) (V.str z) || inV (V.str z) (ys.map V.str)) = _
    rw [ih, Bool.eq_iff_iff, Bool.or_eq_true, decide_eq_true_iff, decide_eq_true_iff, List.mem_cons]
    show (y == z) = true ∨ _ ↔ _
    rw [beq_iff_eq]
    exact ⟨fun h => h.imp (fun e => e.symm) id, fun h => h.imp (fun e => e.symm) id⟩
theorem flat_str {H : Hp} {vs : List V} {xs : List Str} (h : All2 (tSt.r H) vs xs) : vs.all flatV = true := by
  rw [All2.toMap V.str (fun v x e => e) h]
  simp [List.all_map, flatV]
theorem ev_inS {xs : List Str} (ha : Ev W ta tSt z) (hb : Ev W tb (tLs K tSt) xs) : Ev W (tOp (rIn K false) ta tb) tBl (decide (z ∈ xs)) := fun σ H o Q q =>
  ha σ H o _ fun v H1 g1 r1 => hb σ H1 g1.ok _ fun v2 H2 g2 ⟨p, vs, e, s, al⟩ => ⟨p, vs, e, .inl ((SqL.of (hid_sub _ _ s))), by rw [show v = .str z from r1]; rfl, flat_str al, q _ H2 (g1.trans g2) (by rw [show v = .str z from r1]; show V.bl (inV (.str z) vs) = _; rw [inV_str al])⟩
theorem ev_niS {xs : List Str} (ha : Ev W ta tSt z) (hb : Ev W tb (tLs K tSt) xs) : Ev W (tOp (rIn K true) ta tb) tBl (!decide (z ∈ xs)) := fun σ H o Q q =>
  ha σ H o _ fun v H1 g1 r1 => hb σ H1 g1.ok _ fun v2 H2 g2 ⟨p, vs, e, s, al⟩ => ⟨p, vs, e, .inl ((SqL.of (hid_sub _ _ s))), by rw [show v = .str z from r1]; rfl, flat_str al, q _ H2 (g1.trans g2) (by rw [show v = .str z from r1]; show V.bl (!inV (.str z) vs) = _; rw [inV_str al])⟩
/-- a list as a test -/
theorem et_tru {xs : List α} (h : Ev W ta (tLs K t) xs) : Et W (fun σ H Q => ta σ H fun x H' => ∃ k, TruV K x H' k ∧ Q k H') (!xs.isEmpty) := fun σ H o Q q =>
  h σ H o _ fun v H1 g1 ⟨p, vs, e, s, al⟩ => ⟨!xs.isEmpty, by
    rw [e]
    refine .inl ⟨vs, (SqL.of (hid_sub _ _ s)), ?_⟩
    cases vs with
    | nil => cases xs with
      | nil => rfl
      | cons _ _ => exact al.elim
    | cons _ _ => cases xs with
      | nil => exact al.elim
      | cons _ _ => rfl, q H1 g1⟩
/-! ### attributes -/
theorem ev_fld {C : Addr} {flds : α → List (Str × SF)} {n : Str} (m : Nat) (h : Ev W ta (tOb C flds) x) (cl : Cls K C) (na : NoAttr K C n) (e : (flds x)[m]? = some (n, u.is y) := by rfl) : Ev W (tFld K ta n) u y := fun σ H o Q q =>
  h σ H o _ fun v H1 g1 ⟨a, dx, fs, ev, ha, k⟩ => by
    obtain ⟨w, h1, h2⟩ := k n _ (List.mem_of_getElem? e)
    exact ⟨a, C, dx, fs, w, ev, hid_sub _ _ ha, cl, na, h1, q w H1 g1 h2⟩
/-! ### lists -/
/-- isinstance(e, list) -/
theorem ev_isL {xs : List α} {tc : TE} (h : Ev W ta (tLs K t) xs) (hc : tc = tC (.ty "list") := by rfl) (kl : PySem.W.kitOne K (.type "list") (.type "list") = some true) : Ev W (tCB (rIsi K) (tCons ta (tCons tc tNil))) tBl true := fun σ H o Q q =>
  h σ H o _ fun v H1 g1 ⟨p, vs, e, s, al⟩ => by
    subst hc
    refine ⟨v, .ty "list", .type "list", .type "list", true, rfl,   .ty _, ?_, kl, q _ H1 g1 rfl⟩
    rw [e]
    exact .base (.lst (hid_sub _ _ s))
end
end Cs
set_option maxHeartbeats 4000000
namespace Cs
open PySem PySem.Spec PyProof.Rows L2
/-! ### what is walked, what it is stored to -/
/-- the walk over xs: f is what it leans on -/
structure Wks {α : Type} (J : It) (f : FF) (t : Ty α) (xs : List α) : Prop where
  ex : ∃ Y, Walk J xs.length (fun H => ∃ S, f.p (hid S H)) Y ∧ ∀ i H v H' S, i < xs.length → f.p (hid S H) → (∀ a ∈ S, H a ≠ none) → Y i H v H' → Same H H' ∧ ∃ x, xs[i]? = some x ∧ t.r (hid S H') v x
def Iv {α : Type} (W : Wd) (wi : TI) (t : Ty α) (xs : List α) : Prop := ∀ σ H, Ok W σ H → ∀ R : It → Hp → Prop, (∀ J H1 f, Go1 W σ H H1 → f.p (hid W.S H1) → Wks J f t xs → R J H1) → wi σ H R
def Wd.puts (W : Wd) : List (Nat × SF) → Wd
  | [] => W
  | p :: ps => Wd.puts (W.at p.1 p.2) ps
def Tgt {α : Type} (g : TG) (t : Ty α) (as : α → List (Nat × SF)) : Prop := ∀ (W : Wd) σ H v x, Ok W σ H → t.r (hid W.S H) v x → ∀ Q : L2.St → Hp → Prop, (∀ σ', Ok (W.puts (as x)) σ' H → (∀ vs : List Nat, (∀ p ∈ as x, p.1 ∈ vs) → wipe σ' vs = wipe σ vs) → Q σ' H) → g v σ H Q
theorem tgt_name {α : Type} {t : Ty α} {i : Nat} : Tgt (gName i) t (fun x => [(i, t.is x)]) := fun W σ H v x o r Q q => q _ (o.put (f := t.is x) r) fun vs h => wipe_set (h (i, t.is x) (List.mem_cons_self ..))
theorem tgt_pair {α β : Type} {K : PySem.W.Frag} {t : Ty α} {u : Ty β} {i j : Nat} : Tgt (gTup K 2 (gCons (gName i) (gCons (gName j) gNil))) (tPr K t u) (fun p => [(i, t.is p.1), (j, u.is p.2)]) := fun W σ H v x o ⟨p, a, b, e, s, r1, r2⟩ Q q =>
  ⟨p, [a, b], e, sqT_mono hid_sub s, rfl, a, [b], rfl, b, [], rfl, rfl, q _ ((o.put (i := i) (f := t.is x.1) r1).put (i := j) (f := u.is x.2) r2) fun vs h => by
    rw [wipe_set (h (j, u.is x.2) (by simp)), wipe_set (h (i, t.is x.1) (List.mem_cons_self ..))]⟩
section
variable {α β γ : Type} {W : Wd} {K : PySem.W.Frag} {ta tb tc : TE} {t : Ty α} {u : Ty β} {x : α} {y : β} {tt uu : TT} {ar : TA} {ts us : TS} {D : Ends} {g : TG} {as : α → List (Nat × SF)} {wi : TI}
theorem iv_list {xs : List α} (h : Ev W ta (tLs K t) xs) : Iv W (iList K ta) t xs := fun σ H o R q => h σ H o _ fun v H1 g1 ⟨p, vs, e, s, al⟩ =>
  ⟨p, e, ⟨vs, (SqL.of (hid_sub _ _ s))⟩, q _ _ (ffL K t p vs xs) g1 ⟨SqL.of s, al⟩ ⟨YAt vs, by
    rw [← al.length]
    exact walk_list.mono (fun H ⟨S, z⟩ => hid_sub.seq z.1) fun i H v H' _ _ h => h, fun i H v H' S hi z _ ⟨e1, e2⟩ => by
    subst e1
    obtain ⟨x, h1, h2⟩ := z.2.getV e2
    exact ⟨Same.refl _, x, h1, h2⟩⟩⟩
theorem iv_rev {xs : List α} (h : Ev W ta (tLs K t) xs) : Iv W (RT.iRevA K ta) t xs.reverse := fun σ H o R q => h σ H o _ fun v H1 g1 ⟨p, vs, e, s, al⟩ =>
  ⟨p, vs, e, .inl ⟨(SqL.of (hid_sub _ _ s)), q _ _ (ffL K t p vs xs) g1 ⟨SqL.of s, al⟩ ⟨fun i H x H' => H' = H ∧ vs[vs.length - 1 - i]? = some x, by
    rw [List.length_reverse, ← al.length]
    exact walk_rev.mono (fun H ⟨S, z⟩ => hid_sub.seq z.1) fun i H v H' _ _ h => h, fun i H v H' S hi z _ ⟨e1, e2⟩ => by
    subst e1
    obtain ⟨x, h1, h2⟩ := z.2.getV e2
    refine ⟨Same.refl _, x, ?_, h2⟩
    rw [List.length_reverse] at hi
    rw [List.getElem?_reverse hi, ← al.length]
    exact h1⟩⟩⟩
def ffT : FF := ⟨fun _ => True, fun _ h => h⟩
theorem iv_range1 {n : Int} (h : Ev W ta tInt n) (h1 : -(2 ^ 62) ≤ n) (h2 : n < 2 ^ 62) : Iv W (iRng1 (tCons ta tNil)) tInt ((List.range n.toNat).map fun (i : Nat) => (i : Int)) := fun σ H o R q => h σ H o _ fun v H1 g1 r =>
  ⟨n, by rw [show v = .int n from r], h1, h2, q _ _ ffT g1 trivial ⟨YFn fun (i : Nat) => .int (0 + (i : Int)), by
    rw [List.length_map, List.length_range]
    exact walk_range.mono (fun _ _ => trivial) fun i H v H' _ _ h => h, fun i H v H' S hi z _ ⟨e1, e2⟩ => by
    subst e1 e2
    rw [List.length_map, List.length_range] at hi
    exact ⟨Same.refl _, (i : Int), by rw [List.getElem?_map, List.getElem?_range hi]; rfl, by show V.int (0 + (i : Int)) = V.int (i : Int); rw [Int.zero_add]⟩⟩⟩
/-- an iterable whose length has several answers -/
theorem evx_range1 {P : Int → Prop} {R' : Hp → Prop} {σ : L2.St} {H : Hp} {R : It → Hp → Prop} (o : Ok W σ H) (h : Evx W ta tInt P) (h1 : ∀ n, P n → -(2 ^ 62) ≤ n ∧ n < 2 ^ 62) (q : ∀ n J H1 f, P n → Go1 W σ H H1 → f.p (hid W.S H1) → Wks J f tInt ((List.range n.toNat).map fun (i : Nat) => (i : Int)) → R J H1) : iRng1 (tCons ta tNil) σ H R :=
  h σ H o _ fun v n H1 p g1 r => ⟨n, by rw [show v = .int n from r], (h1 n p).1, (h1 n p).2, q n _ _ ffT p g1 trivial ⟨YFn fun (i : Nat) => .int (0 + (i : Int)), by
    rw [List.length_map, List.length_range]
    exact walk_range.mono (fun _ _ => trivial) fun i H v H' _ _ h => h, fun i H v H' S hi z _ ⟨e1, e2⟩ => by
    subst e1 e2
    rw [List.length_map, List.length_range] at hi
    exact ⟨Same.refl _, (i : Int), by rw [List.getElem?_map, List.getElem?_range hi]; rfl, by show V.int (0 + (i : Int)) = V.int (i : Int); rw [Int.zero_add]⟩⟩⟩
/-! ### for -/
/-- a for over xs: the things and the slots at each turn by a parameter -/
theorem for_core {ι : Type} {xs : List α} {J : It} {f : FF} {σ : L2.St} {H1 : Hp} (wk : Wks J f t xs) (tg : Tgt g t as) (JJ : Nat → ι → Wd) (Pv : Nat → ι → Prop) (hS : ∀ k c, (JJ k c).F = f :: W.F)
    (start : ∃ c, Pv 0 c ∧ Ok (JJ 0 c) σ H1)
    (hs : ∀ k c x, xs[k]? = some x → Pv k c → Go ((JJ k c).puts (as x)) ts { D with nx := fun σ H => ∃ c', Pv (k + 1) c' ∧ Ok (JJ (k + 1) c') σ H, ct := fun σ H => ∃ c', Pv (k + 1) c' ∧ Ok (JJ (k + 1) c') σ H, bk := D.nx })
    (hd : ∀ c, Pv xs.length c → ∀ σ H, Ok (JJ xs.length c) σ H → D.nx σ H) :
    ∃ Wm : Nat → Nat → L2.St → Hp → Prop, (∃ m, Wm 0 m σ H1) ∧ ∀ i m σ H, Wm i m σ H →
      (J.stop i H ∧ D.nx σ H) ∨ (J.go i H ∧ ∃ N : L2.St → Hp → Prop, (∀ σ' H', N σ' H' → ∃ m', m' < m ∧ Wm (i + 1) m' σ' H') ∧ ∀ x H', J.yld i H x H' → g x σ H' fun σ2 H2 => ts { D with nx := N, ct := N, bk := D.nx } σ2 H2) := by
  obtain ⟨Y, wY, hY⟩ := wk.ex
  have ff : ∀ k c σ H, Ok (JJ k c) σ H → f.p (hid (JJ k c).S H) := fun k c σ H o => o.facts f (by rw [hS]; exact List.mem_cons_self ..)
  refine for_it wY (fun k σ H => ∃ c, Pv k c ∧ Ok (JJ k c) σ H) start (fun k σ H _ ⟨c, _, o⟩ => ⟨_, ff k c σ H o⟩) ?_ ?_
  · rintro k v σ H H' hk ⟨c, pc, o⟩ y
    obtain ⟨e, x, hx, rx⟩ := hY k H v H' _ hk (ff k c σ H o) o.al y
    exact tg _ σ H' v x (o.same e) rx _ fun σ' o' _ => hs k c x hx pc σ' H' o'
  · rintro σ H ⟨c, pc, o⟩
    exact hd c pc σ H o
theorem go_for {ι : Type} {xs : List α} (h : Iv W wi t xs) (tg : Tgt g t as) (J : Nat → ι → List RS × List (Option SF)) (Pv : Nat → ι → Prop) (c0 : ι) (p0 : Pv 0 c0) (w0 : Wk W { W with L := (J 0 c0).1, G := (J 0 c0).2 })
    (hs : ∀ k c x (f : FF), xs[k]? = some x → Pv k c → Go (Wd.puts ⟨W.H0, W.M, W.S, (J k c).1, f :: W.F, (J k c).2⟩ (as x)) ts
      { D with nx := fun σ H => ∃ c', Pv (k + 1) c' ∧ Ok ⟨W.H0, W.M, W.S, (J (k + 1) c').1, f :: W.F, (J (k + 1) c').2⟩ σ H, ct := fun σ H => ∃ c', Pv (k + 1) c' ∧ Ok ⟨W.H0, W.M, W.S, (J (k + 1) c').1, f :: W.F, (J (k + 1) c').2⟩ σ H, bk := D.nx })
    (hd : ∀ c, Pv xs.length c → ∀ σ H, Ok { W with L := (J xs.length c).1, G := (J xs.length c).2 } σ H → D.nx σ H) :
    Go W (tFor wi g ts) D := fun σ H o => h σ H o _ fun Ji H1 f g1 fp wk =>
  for_core wk tg (fun k c => ⟨W.H0, W.M, W.S, (J k c).1, f :: W.F, (J k c).2⟩) Pv (fun _ _ => rfl) ⟨c0, p0, Ok.know (w0 _ _ g1.ok) fp⟩ (fun k c x hx pc => hs k c x f hx pc) fun c pc σ' H' o' => hd c pc σ' H'
    ⟨o'.nod, o'.own, o'.at_, o'.ms, o'.al, o'.bt, o'.len, fun q m => o'.facts q (List.mem_cons_of_mem _ m), o'.slots⟩
/-! ### comprehensions -/
/-- what a comprehension makes of xs where test and element have several answers -/
inductive LcR (P : α → Bool → Prop) (R : α → β → Prop) : List α → List β → Prop
  | nil : LcR P R [] []
  | skip {xs ys x} : LcR P R xs ys → P x false → LcR P R (xs ++ [x]) ys
  | take {xs ys x y} : LcR P R xs ys → P x true → R x y → LcR P R (xs ++ [x]) (ys ++ [y])
theorem LcR.len {P : α → Bool → Prop} {R : α → β → Prop} {xs : List α} {ys : List β} (h : LcR P R xs ys) : ys.length ≤ xs.length := by
  induction h with
  | nil => exact Nat.le_refl _
  | skip _ _ ih => rw [List.length_append]; exact Nat.le_trans ih (Nat.le_add_right _ _)
  | take _ _ _ ih => rw [List.length_append, List.length_append]; simpa using ih
theorem LcR.det {p : α → Bool} {f : α → β} {xs : List α} {ys : List β} (h : LcR (fun x b => b = p x) (fun x y => y = f x) xs ys) : ys = (xs.filter p).map f := by
  induction h with
  | nil => rfl
  | skip _ hp ih => rw [filterMap_snoc, ← hp, ih]; simp
  | take _ hp hy ih => rw [filterMap_snoc, ← hp, ih, hy]; simp
theorem LcR.sub {P : α → Bool → Prop} {xs ys : List α} (h : LcR P (fun x y => y = x) xs ys) : ys.Sublist xs := by
  induction h with
  | nil => exact List.Sublist.refl _
  | skip _ _ ih => exact ih.trans (List.sublist_append_left _ _)
  | take _ _ e ih => rw [e]; exact List.Sublist.append ih (List.Sublist.refl _)
theorem LcR.all {P : α → Bool → Prop} {R : α → β → Prop} {p : β → Prop} {xs : List α} {ys : List β} (h : LcR P R xs ys) (f : ∀ x y, x ∈ xs → P x true → R x y → p y) : ∀ y, y ∈ ys → p y := by
  induction h with
  | nil => intro y m; cases m
  | skip _ _ ih => exact ih fun x y m => f x y (List.mem_append_left _ m)
  | take _ hp hr ih =>
    intro y m
    rcases List.mem_append.mp m with m | m
    · exact ih (fun x y m => f x y (List.mem_append_left _ m)) y m
    · rw [List.mem_singleton.mp m]
      exact f _ _ (List.mem_append_right _ (List.mem_singleton.mpr rfl)) hp hr
theorem LcR.full {R : α → β → Prop} {xs : List α} {ys : List β} (h : LcR (fun _ b => b = true) R xs ys) : ys.length = xs.length := by
  induction h with
  | nil => rfl
  | skip _ e _ => cases e
  | take _ _ _ ih => rw [List.length_append, List.length_append, ih]; rfl
theorem evx_lc {xs : List α} {P : α → Bool → Prop} {R : α → β → Prop} {vs : List Nat} (h : Iv W wi t xs) (tg : Tgt g t as) (hi : ∀ x, ∀ p ∈ as x, p.1 ∈ vs) (hl : xs.length < sizeLine)
    (ht : ∀ D φ F x, (∀ f ∈ W.F, f ∈ F) → x ∈ xs → Etx ((W.el D φ F vs).puts (as x)) tt (P x))
    (he : ∀ D φ F x, (∀ f ∈ W.F, f ∈ F) → x ∈ xs → P x true → Evx ((W.el D φ F vs).puts (as x)) tb u (R x)) (hp : ∀ (W : Wd) x, (W.puts (as x)).H0 = W.H0 ∧ (W.puts (as x)).M = W.M ∧ (W.puts (as x)).S = W.S ∧ (W.puts (as x)).L = W.L ∧ (W.puts (as x)).F = W.F := by intros; exact ⟨rfl, rfl, rfl, rfl, rfl⟩) :
    Evx W (tLc wi g tt tb vs) (tLs K u) (LcR P R xs) := fun σ H o Q q => by
  refine h σ H o _ fun J H1 f g1 fp wk => ?_
  intro D nD
  obtain ⟨Y, wY, hY⟩ := wk.ex
  let Wk : List β → Wd := fun ys => ⟨W.H0, W.M, D :: W.S, cell D (cLs u ys) :: W.L, f :: ffS (hid W.S H1) :: W.F, W.G⟩
  have start : Ok (Wk []) σ (upd H1 D (.lst [])) := by
    obtain ⟨o1, up⟩ := g1.ok.cell (ψ := cLs u ([] : List β)) nD ⟨[], rfl, trivial⟩
    exact Ok.know (Ok.know o1 (f := ffS (hid W.S H1)) up) (f := f) (f.mono up fp)
  have ff : ∀ ys H, Ok (Wk ys) σ H → f.p (hid (D :: W.S) H) := fun ys H o => o.facts f (List.mem_cons_self ..)
  refine lc_it wY (fun k H' => ∃ ys, LcR P R (xs.take k) ys ∧ Ok (Wk ys) σ H') ⟨[], .nil, start⟩ (fun k H' _ ⟨ys, _, o'⟩ => ⟨_, ff ys H' o'⟩) ?_ ?_
  · rintro k v H0' H' hk ⟨ys, rel, o'⟩ y
    obtain ⟨e, x, hx, rx⟩ := hY k H0' v H' _ hk (ff ys H0' o') o'.al y
    have o' := o'.same e
    have xm := List.mem_of_getElem? hx
    have sub : ∀ q ∈ W.F, q ∈ f :: ffS (hid W.S H1) :: W.F := fun q m => List.mem_cons_of_mem _ (List.mem_cons_of_mem _ m)
    refine tg _ _ H' v x (Ok.wipe (vs := vs) o') rx _ fun σ' oe ew => ?_
    refine ⟨by rw [ew vs (hi x), wipe_twice], ?_⟩
    have back : ∀ H2, Go1 (((W.el D (cLs u ys) (f :: ffS (hid W.S H1) :: W.F) vs).puts (as x))) σ' H' H2 → Ok (Wk ys) σ H2 := fun H2 g2 => by
      obtain ⟨p1, p2, p3, p4, p5⟩ := hp (W.el D (cLs u ys) (f :: ffS (hid W.S H1) :: W.F) vs) x
      have o2 := g2.ok
      have up := g2.up
      rw [p3] at up
      have o3 : Ok { Wk ys with G := ((W.el D (cLs u ys) (f :: ffS (hid W.S H1) :: W.F) vs).puts (as x)).G } σ' H2 := by
        have : ((W.el D (cLs u ys) (f :: ffS (hid W.S H1) :: W.F) vs).puts (as x)) = { Wk ys with G := ((W.el D (cLs u ys) (f :: ffS (hid W.S H1) :: W.F) vs).puts (as x)).G } := by
          generalize ((W.el D (cLs u ys) (f :: ffS (hid W.S H1) :: W.F) vs).puts (as x)) = Z at p1 p2 p3 p4 p5 ⊢
          cases Z
          cases p1; cases p2; cases p3; cases p4; cases p5
          rfl
        rw [← this]
        exact o2
      exact Ok.swap (W := Wk ys) o' o3 up
    refine ht D _ _ x sub xm _ _ oe _ fun b H2 pb g2 => ?_
    cases b with
    | false =>
      refine iteF ⟨ys, ?_, back H2 g2⟩
      rw [take_snoc hx]
      exact .skip rel pb
    | true =>
      refine iteT ?_
      refine he D _ _ x sub xm pb _ _ g2.ok _ fun w z H3 pz g3 rz => ?_
      have o3 := back H3 (g2.trans g3)
      obtain ⟨ob, hob, us', rfl, hus⟩ := o3.at_ _ (List.mem_cons_self ..)
      refine ⟨us', hob, ?_, ys ++ [z], ?_, ?_⟩
      · rw [hus.length]
        refine Nat.lt_of_le_of_lt (Nat.le_trans rel.len ?_) hl
        rw [List.length_take]
        omega
      · rw [take_snoc hx]
        exact .take rel pb pz
      · rw [(hp (W.el D (cLs u ys) (f :: ffS (hid W.S H1) :: W.F) vs) x).2.2.1] at rz
        exact (o3.write (ψ := cLs u (ys ++ [z])) (o := .lst (us' ++ [w])) rfl ⟨_, rfl, hus.app (ws := [w]) (ys := [z]) ⟨rz, trivial⟩⟩).ok
  · rintro H' ⟨ys, rel, o2⟩
    rw [List.take_length] at rel
    obtain ⟨ob, hob, us', rfl, hus⟩ := o2.at_ _ (List.mem_cons_self ..)
    have up := o2.facts (ffS (hid W.S H1)) (List.mem_cons_of_mem _ (List.mem_cons_self ..))
    have less : Same (hid (D :: W.S) H') (hid W.S H') := hid_less fun a h => List.mem_cons_of_mem _ h
    have o3 := Ok.drop (N := [D]) o2 (ok_sub g1.ok) g1.ok.ms
    have o4 : Ok W σ H' := ⟨o3.nod, o3.own, o3.at_, o3.ms, o3.al, o3.bt, o3.len, fun f m => o3.facts f (List.mem_cons_of_mem _ (List.mem_cons_of_mem _ m)), o3.slots⟩
    refine q _ ys _ rel (g1.trans ⟨o4, up.trans less⟩) ⟨D, us', rfl, ?_, All2.mono (fun _ _ => u.mono less) hus⟩
    rw [hid_of (g1.ok.off nD)]
    exact hob
theorem ev_lcf {xs : List α} {p : α → Bool} {f : α → β} {vs : List Nat} (h : Iv W wi t xs) (tg : Tgt g t as) (hi : ∀ x, ∀ p ∈ as x, p.1 ∈ vs) (hl : xs.length < sizeLine)
    (ht : ∀ D φ F x, (∀ f ∈ W.F, f ∈ F) → x ∈ xs → Et ((W.el D φ F vs).puts (as x)) tt (p x))
    (he : ∀ D φ F x, (∀ f ∈ W.F, f ∈ F) → x ∈ xs → p x = true → Ev ((W.el D φ F vs).puts (as x)) tb u (f x)) (hp : ∀ (W : Wd) x, (W.puts (as x)).H0 = W.H0 ∧ (W.puts (as x)).M = W.M ∧ (W.puts (as x)).S = W.S ∧ (W.puts (as x)).L = W.L ∧ (W.puts (as x)).F = W.F := by intros; exact ⟨rfl, rfl, rfl, rfl, rfl⟩) :
    Ev W (tLc wi g tt tb vs) (tLs K u) ((xs.filter p).map f) := fun σ H o Q q =>
  evx_lc (P := fun x b => b = p x) (R := fun x y => y = f x) h tg hi hl (fun D φ F x hF hx => (ht D φ F x hF hx).toX rfl) (fun D φ F x hF hx e => (he D φ F x hF hx e.symm).x rfl) hp σ H o Q fun v ys H' r g1 rr => q v H' g1 (r.det ▸ rr)
theorem ev_lcm {xs : List α} {f : α → β} {vs : List Nat} (h : Iv W wi t xs) (tg : Tgt g t as) (hi : ∀ x, ∀ p ∈ as x, p.1 ∈ vs) (hl : xs.length < sizeLine)
    (he : ∀ D φ F x, (∀ f ∈ W.F, f ∈ F) → x ∈ xs → Ev ((W.el D φ F vs).puts (as x)) tb u (f x)) (hp : ∀ (W : Wd) x, (W.puts (as x)).H0 = W.H0 ∧ (W.puts (as x)).M = W.M ∧ (W.puts (as x)).S = W.S ∧ (W.puts (as x)).L = W.L ∧ (W.puts (as x)).F = W.F := by intros; exact ⟨rfl, rfl, rfl, rfl, rfl⟩) :
    Ev W (tLc wi g tYes tb vs) (tLs K u) (xs.map f) :=
  ev_is (ev_lcf (p := fun _ => true) h tg hi hl (fun _ _ _ _ _ _ => et_yes) (fun D φ F x hF hx _ => he D φ F x hF hx) hp) (by rw [filter_yes])
end
end Cs
set_option maxHeartbeats 4000000
namespace Cs
open PySem PySem.Spec PyProof.Rows L2
/-! ### draws -/
def cDk (K : PySem.W.Frag) (d l : Addr) (ns : List Int) : CF := ⟨fun F o => ∃ b c e, o = DeckO l b c e ∧ SqL K F l (ns.map V.int) ∧ l ≠ d ∧ 0 ≤ b, fun e ⟨b, c, f, h, g, k⟩ => ⟨b, c, f, h, e.seq g, k⟩⟩
/-- the deck, where the script's own list is new, too -/
def spDeckN (K : PySem.W.Frag) : Sp := fun vs H Q _ => ∃ (a : Addr) (ns : List Int), vs = [.ref a] ∧ SqL K H a (ns.map V.int) ∧ ∀ d l H', Same H H' → H d = none → H l = none → DeckA K H' d l ns → Q (.ref d) H'
section
variable {α β γ : Type} {W : Wd} {K : PySem.W.Frag} {ta tb tc : TE} {t : Ty α} {u : Ty β} {x x' : α} {y : β} {tt uu : TT} {ar : TA} {fs : List SF} {i j : Int} {E : XK} {ts us : TS} {D : Ends} {z z' : Str} {g : TG} {as : α → List (Nat × SF)} {wi : TI}
theorem evx_draw {m : Int} {s : Nat} {d l : Addr} {ns : List Int} (hs : W.G[s]? = some (some (tRf.is d))) (hL : cell d (cDk K d l ns) ∈ W.L) (hm : Ev W ta tInt m) (m0 : 0 < m) (mb : m.natAbs < 2 ^ 8000) :
    Evx W (tCall (spDrawA K) [] E (tCons (tVar s) (tCons ta tNil))) tInt (fun v => 0 ≤ v ∧ v < m) := fun σ H o Q q => by
  obtain ⟨v, h1, rfl⟩ := o.slots s _ hs
  refine ⟨.ref d, h1, ?_⟩
  refine hm σ H o _ fun v H1 g1 r => ?_
  obtain ⟨ob, hob, b, c, e, rfl, hl, ne, b0⟩ := g1.ok.at_ _ hL
  refine ⟨d, m, l, ns, by rw [show v = .int m from r]; rfl, m0, mb, ⟨b, c, e, hob, hid_sub.seq hl, ne, b0⟩, fun w H2 w0 w1 bt ⟨b', c', e', hob', _, _, b0'⟩ => ?_⟩
  have fd : fps [cell d (cDk K d l ns)] = [d] := rfl
  have bt' : Bt (fps [cell d (cDk K d l ns)]) H1 H2 := fun a o n h => bt a o (fun z => n (by rw [fd, z]; exact List.mem_cons_self ..)) h
  have hd : d ∈ W.S := (g1.ok.own d (mem_fps hL (List.mem_cons_self ..))).1
  have up : Same (hid W.S H1) (hid W.S H2) := bt'.hid (N := []) (fun a m => by rw [fd] at m; rw [List.mem_singleton.mp m]; exact hd) (fun a m => nomatch m)
  have g2 := g1.ok.after (C := [cell d (cDk K d l ns)]) (fun r m => by rw [List.mem_singleton.mp m]; exact hL) bt' (fun a m => by rw [fd] at m; rw [List.mem_singleton.mp m, hob']; simp) (fun r m => by
    rw [List.mem_singleton.mp m]
    exact ⟨_, hob', b', c', e', rfl, up.seq hl, ne, b0'⟩)
  exact q _ w H2 ⟨w0, w1⟩ (g1.trans g2) rfl
/-- deck = _law_deck(script) -/
theorem go_deck {ns : List Int} {s n : Nat} (hs : W.G[s]? = some (some ((tSc K).is ns))) (k : ∀ d l, Go ⟨W.H0, W.M, d :: W.S, cell d (cDk K d l ns) :: W.L, W.F, W.G.set n (some (tRf.is d))⟩ us D) : Go W (tSeq (tAsg (tCall (spDeckN K) [] E (tCons (tVar s) tNil)) (gName n)) us) D := fun σ H o => by
  obtain ⟨v, h1, p, rfl, hq⟩ := o.slots s _ hs
  refine ⟨.ref p, h1, p, ns, rfl, ?_, fun d l H' e nd nl ⟨b, c, f, hd, hl, ne, b0⟩ => ?_⟩
  · exact hid_sub.seq hq
  · have o1 := o.same e
    have nl' : l ∉ [d] ++ W.S := fun z => by
      rcases List.mem_cons.mp z with z | z
      · exact ne z
      · exact o.al l z nl
    have e2 : Bt (fps ([] : List RS)) H H' := Bt.of e
    obtain ⟨o2, _⟩ := o.change1 (C := []) (C' := [cell d (cDk K d l ns)]) (R := W.L) (N := [d]) (H' := H') rfl e2 (fun a m => by rw [List.mem_singleton.mp m]; exact ⟨nd, by rw [hd]; simp⟩) (by show [d].Nodup; simp) (fun a m => .inr m) (fun a m => nomatch m) (fun r m => by
      rw [List.mem_singleton.mp m]
      refine ⟨_, hd, b, c, f, rfl, ?_, ne, b0⟩
      rcases hl with (hl | ⟨ob, hl⟩) | hl
      · exact .inl (.inl (by rw [hid_of nl']; exact hl))
      · exact .inl (.inr ⟨ob, by rw [hid_of nl']; exact hl⟩)
      · exact .inr hl)
    exact k d l _ _ (Ok.put (i := n) (f := tRf.is d) o2 rfl)
/-! ### fractions -/
theorem ev_ratio {p q : Int} (ha : Ev W ta tInt p) (hb : Ev W tb tInt q) (q0 : q ≠ 0) (hp : p.natAbs < 2 ^ 2400) (hq : q.natAbs < 2 ^ 2400) : Ev W (tCall spRatio [] E (tCons ta (tCons tb tNil))) (tFr K) (Rat.divInt p q) := fun σ H o Q k =>
  ha σ H o _ fun v H1 g1 r1 => hb σ H1 g1.ok _ fun v2 H2 g2 r2 => ⟨p, q, by rw [show v = .int p from r1, show v2 = .int q from r2]; rfl, q0, hp, hq, fun a H3 e na ha =>
    k _ _ ((g1.trans g2).trans (g2.ok.go e)) ⟨a, rfl, SqT.of (by rw [hid_of (g2.ok.off na)]; exact ha)⟩⟩
theorem evx_ratio {P P' : Int → Prop} (ha : Evx W ta tInt P) (hb : Evx W tb tInt P') (c : ∀ p q, P p → P' q → q ≠ 0 ∧ p.natAbs < 2 ^ 2400 ∧ q.natAbs < 2 ^ 2400) : Evx W (tCall spRatio [] E (tCons ta (tCons tb tNil))) (tFr K) (fun r => ∃ p q, P p ∧ P' q ∧ r = Rat.divInt p q) := fun σ H o Q k =>
  ha σ H o _ fun v p H1 pp g1 r1 => hb σ H1 g1.ok _ fun v2 q H2 pq g2 r2 => ⟨p, q, by rw [show v = .int p from r1, show v2 = .int q from r2]; rfl, (c p q pp pq).1, (c p q pp pq).2.1, (c p q pp pq).2.2, fun a H3 e na ha =>
    k _ _ _ ⟨p, q, pp, pq, rfl⟩ ((g1.trans g2).trans (g2.ok.go e)) ⟨a, rfl, SqT.of (by rw [hid_of (g2.ok.off na)]; exact ha)⟩⟩
theorem ev_frc {p q : Int} (ha : Ev W ta tInt p) (hb : Ev W tb tInt q) (q0 : q ≠ 0) (hq : q.natAbs < 2 ^ 9000) : Ev W (tCall spFrac [] E (tCons ta (tCons tb tNil))) (tFr K) (Rat.divInt p q) := fun σ H o Q k =>
  ha σ H o _ fun v H1 g1 r1 => hb σ H1 g1.ok _ fun v2 H2 g2 r2 => ⟨p, q, by rw [show v = .int p from r1, show v2 = .int q from r2]; rfl, q0, hq, fun a H3 e na ha =>
    k _ _ ((g1.trans g2).trans (g2.ok.go e)) ⟨a, rfl, SqT.of (by rw [hid_of (g2.ok.off na)]; exact ha)⟩⟩
theorem ev_frc1 {p : Int} (ha : Ev W ta tInt p) : Ev W (tCall spFrac [.int 1] E (tCons ta tNil)) (tFr K) (p : Rat) := fun σ H o Q k =>
  ha σ H o _ fun v H1 g1 r1 => ⟨p, 1, by rw [show v = .int p from r1]; rfl, by decide, Nat.lt_of_lt_of_le (by decide : (1 : Int).natAbs < 2 ^ 1) (Nat.pow_le_pow_right (by decide) (by decide)), fun a H3 e na ha =>
    k _ _ (g1.trans (g1.ok.go e)) ⟨a, rfl, SqT.of (by
      rw [hid_of (g1.ok.off na), ha]
      have : Rat.divInt p 1 = (p : Rat) := by
        rw [Rat.divInt_eq_div, show ((1 : Int) : Rat) = 1 from rfl]; grind
      rw [this]; rfl)⟩⟩
/-! ### lists, again -/
theorem ev_cat {xs ys : List α} (ha : Ev W ta (tLs K t) xs) (hb : Ev W tb (tLs K t) ys) (hl : xs.length + ys.length ≤ sizeLine) : Ev W (tOp rCat ta tb) (tLs K t) (xs ++ ys) := fun σ H o Q q =>
  ha σ H o _ fun v H1 g1 r1 => hb σ H1 g1.ok _ fun v2 H2 g2 ⟨p2, vs2, e2, s2, al2⟩ => by
    obtain ⟨p1, vs1, e1, s1, al1⟩ := (tLs K t).mono g2.up r1
    exact ⟨p1, p2, vs1, vs2, e1, e2, hid_sub _ _ s1, hid_sub _ _ s2, by rw [al1.length, al2.length]; exact hl, fun p np => q _ _ ((g1.trans g2).trans (g2.ok.new np))
      ⟨p, vs1 ++ vs2, rfl, (by rw [hid_of (g2.ok.off np)]; exact upd_same), All2.mono (fun _ _ => t.mono (g2.ok.new np).up) (al1.app al2)⟩⟩
/-- arguments with stars -/
theorem el_star {xs ys : List α} (ha : Ev W ta (tLs K t) xs) (hr : El W ar t ys) : El W (StX.tStar K ta ar) t (xs ++ ys) := fun σ H o Q q =>
  ha σ H o _ fun v H1 g1 ⟨p, vs, e, s, al⟩ => ⟨p, vs, e, .inr ((SqL.of (hid_sub _ _ s))), hr σ H1 g1.ok _ fun ws H2 g2 r2 => q _ _ (g1.trans g2) ((All2.mono (fun _ _ => t.mono g2.up) al).app r2)⟩
theorem El.go {xs ys : List α} (h : El W ar t xs) (e : xs = ys) : El W ar t ys := e ▸ h
end
end Cs
set_option maxHeartbeats 4000000
namespace Cs
open PySem PySem.Spec PyProof.Rows L2
open Sem (wp)
/-! ### list(reversed(xs)) -/
section
variable {prog : Program} {w : World} {A : Around} {E : Value → Shared → Prop} {s : Shared}
/-- the new list at S takes what the reversed iterator gives -/
theorem ext_rev {it l S : Addr} {items : Array Value} {R : Result → Shared → Prop} {res : Value} {c0 : Nat} (hh : A.handled = none) (hit : s.heap.IsRevIter it l ((items.size : Int) - 1)) (hl : s.heap.IsList l items) (hne : l ≠ it) (hn : items.size ≤ sizeLine)
    (hSi : S ≠ it) (hSl : S ≠ l) (hS : s.heap.get? S = some { cls := .type "list", data := .seq #[] c0 })
    (hR : ∀ (s' : Shared) (acc : Array Value) (c' : Nat), Moved [S, it] (fun a b => b = a) s s' → s'.heap.get? S = some { cls := .type "list", dict := none, data := .seq acc c', slots := #[] } → ItemsOf (fun i v => items[items.size - 1 - i]? = some v) acc items.size → R (.ok (.ret res)) s') :
    wpAny (model prog w) A.in1 (Builtin.List.listExtendWith (.ref S) (.ref it) res) (fun fin s' => match fin with | .done f => R (.ok f) s' | .again c' => c'.quiet = true ∧ codeAny (model prog w) A c' R s') (fun e s' => R (.error e) s') s := by
  have W := (Walks.listRev (prog := prog) (w := w) (A := A.in1) hh it l hne items).toS
  have hSf : S ∉ [it, l] := by simp [hSi, hSl]
  have hT : s.TypeIs (.ref it) "list_reverseiterator" := hit.typeIs
  have same : Builtin.List.listSameRef (.ref S) (.ref it) = false := by simp [Builtin.List.listSameRef, hSi]
  unfold Builtin.List.listExtendWith
  refine wpAny_bind (wpAny_typeOf hT ?_)
  rw [if_neg (by rw [same]; decide)]
  refine wpAny_bind (wpAny_pyIter_revIter hit ?_)
  refine wpAny_bind (wpAny_holding ?_)
  unfold Builtin.List.listLengthHint
  refine wpAny_bind (wpAny_specialOf hT RT.nolen_lri ?_)
  show wpAny _ A.in1 (specialOf (Value.ref it) (Str.ofString "__length_hint__") >>= _) _ _ _
  refine wpAny_bind (wpAny_specialOf hT RT.hint_lri ?_)
  generalize eid : ("list_reverseiterator.__length_hint__" : String) = hint
  wp_delta
  rw [show splitId hint = some ("list_reverseiterator", "__length_hint__") from by subst eid; decide +kernel]
  subst eid
  refine wpAny_bind (wpAny_isInstance (T := "list_reverseiterator") (b := true) hT (by rw [isSubtype_type]; kernel_rfl) ?_)
  refine wpAny_pure ?_
  rw [if_neg (by decide)]
  have st0 : (0 : Nat) ≤ items.size ∧ s.heap.IsRevIter it l ((items.size : Int) - 1 - ((0 : Nat) : Int)) ∧ s.heap.IsList l items := ⟨Nat.zero_le _, by rw [show (items.size : Int) - 1 - ((0 : Nat) : Int) = (items.size : Int) - 1 from by omega]; exact hit, hl⟩
  exact wpAny_pure ⟨plainId_quiet F.plain_extend_loop _, codeAny_extend_loopS W hn _ hSf _ items.size 0 _ _ _ rfl (Nat.zero_le _) st0 hS (ItemsOf.nil _) fun s' acc' c' hm hS' hacc => hR s' acc' c' hm hS' hacc⟩
theorem call_list_rev {it l : Addr} {items : Array Value} {Q : Value → Shared → Prop} (hh : A.handled = none) (hit : s.heap.IsRevIter it l ((items.size : Int) - 1)) (hl : s.heap.IsList l items) (hne : l ≠ it) (hn : items.size ≤ sizeLine)
    (hQ : ∀ (s' : Shared) (acc : Array Value) (c' : Nat), Moved [s.heap.objs.size, it] (fun a b => b = a) { s with heap := s.heap.push { cls := .type "list", data := .seq #[] } } s' → s'.heap.get? s.heap.objs.size = some { cls := .type "list", dict := none, data := .seq acc c', slots := #[] } →
      ItemsOf (fun i v => items[items.size - 1 - i]? = some v) acc items.size → Q (.ref s.heap.objs.size) s') : wpAny (model prog w) A (call (.type "list") [.ref it]) Q E s := by
  refine callType_codes (Q₁ := fun obj s₁ => obj = .ref s.heap.objs.size ∧ s₁ = { s with heap := s.heap.push { cls := .type "list", data := .seq #[] } }) F.called_list (F.typeCall_list_1 _) F.entry_list_init (code_list_new _ ⟨rfl, rfl⟩) fun obj s₁ h₁ => ?_
  obtain ⟨rfl, rfl⟩ := h₁
  have new : (s.heap.push { cls := .type "list", data := .seq #[] }).get? s.heap.objs.size = some { cls := .type "list", data := .seq #[] } := Heap.get?_push_size _ rfl
  have hSi : s.heap.objs.size ≠ it := by obtain ⟨o, ho, _⟩ := id hit; exact Nat.ne_of_gt (Heap.lt_size ho)
  have hSl : s.heap.objs.size ≠ l := by obtain ⟨o, ho, _⟩ := id hl; exact Nat.ne_of_gt (Heap.lt_size ho)
  refine ⟨⟨_, new, rfl⟩, F.args_list_init_2 _ _, ?_⟩
  show wpAny _ A.in1.in1 (Builtin.List.listItems (.ref s.heap.objs.size) >>= fun old => Builtin.List.listUpdate (.ref s.heap.objs.size) (fun _ => #[]) >>= fun _ => letGo old.toList.reverse >>= fun _ => Builtin.List.listExtendWith (.ref s.heap.objs.size) (.ref it) .none) _ _ _
  refine wpAny_bind ?_
  unfold Builtin.List.listItems
  refine wpAny_bind (wpAny_seqItems new rfl (wpAny_pure (wpAny_bind (m := updateSeq s.heap.objs.size fun _ => #[]) (wpAny_updateSeq new rfl (wpAny_bind (wpAny_letGo ?_))))))
  have new2 := Heap.get?_update_self (Obj.mapSeq (fun _ => (#[] : Array Value))) new rfl
  have oth : ∀ b o, b ≠ s.heap.objs.size → (s.heap.push { cls := .type "list", data := .seq #[] }).get? b = some o → ((s.heap.push { cls := .type "list", data := .seq #[] }).update s.heap.objs.size (Obj.mapSeq fun _ => (#[] : Array Value))).get? b = some o :=
    fun b o hb q => (Heap.get?_update_other _ _ (Ne.symm hb)).trans q
  refine ext_rev (A := A.in1) (c0 := _) hh (hit.at fun o q => oth _ o hSi.symm (Heap.get?_push_of_some _ q)) (by obtain ⟨o, ho, r⟩ := id hl; exact ⟨o, oth _ o hSl.symm (Heap.get?_push_of_some _ ho), r⟩) hne hn hSi hSl new2 fun s' acc c' hm hS' hacc => ?_
  have m1 : Moved [s.heap.objs.size, it] (fun a b => b = a) { s with heap := s.heap.push { cls := .type "list", data := .seq #[] } } { s with heap := (s.heap.push { cls := .type "list", data := .seq #[] }).update s.heap.objs.size (Obj.mapSeq fun _ => (#[] : Array Value)) } :=
    ⟨fun b o hb q => oth b o (fun z => hb (by rw [z]; exact List.mem_cons_self ..)) q, rfl, rfl, rfl, Nat.le_refl _⟩
  exact ⟨rfl, hQ s' acc c' (m1.trans (fun _ _ _ h1 h2 => h2.trans h1) hm) hS' hacc⟩
end
/-- list(reversed(e)), e a list -/
def tListRev (te : TE) : TE := fun σ H Q => te σ H fun v H1 => ∃ (a : Addr) (xs : List V), v = .ref a ∧ H1 a = some (.lst xs) ∧ ∀ q, H1 q = none → Q (.ref q) (upd H1 q (.lst xs.reverse))
theorem pe_listRev {X : Cx} {e : Expr} {te : TE} {p p2 pos pos2 : Pos} (hc : X.calm = true) (hg : Gl X "list") (hm : X.mg "list" = none) (hg2 : Gl X "reversed") (hm2 : X.mg "reversed" = none) (he : PE X e te)
    (hs : starEach [e] X.env = (false, eval e X.env) :: starEach [] X.env := by rfl)
    (hs2 : starEach [.Call (.Name "reversed" p2) [e] [] pos2] X.env = (false, eval (.Call (.Name "reversed" p2) [e] [] pos2) X.env) :: starEach [] X.env := by rfl) :
    PE X (.Call (.Name "list" p) [.Call (.Name "reversed" p2) [e] [] pos2] [] pos) (tListRev te) := by
  refine ⟨fun pins s σ H Q I h => ?_⟩
  refine Call_ (ld_blt I hg hm boot_list (PyProof.Rows.callWith_type1 (args_cons (Call_ (ld_blt I hg2 hm2 PyProof.Rows.boot_reversed (PyProof.Rows.callWith_type1 (args_cons (thn (he.run pins s σ H _ I h) fun u s1 ⟨v, H1, I1, r1, q1⟩ => args_nil ?_) hs) hs rfl))) hs2) hs2 rfl))
  obtain ⟨a, xs, ev, hq, q⟩ := q1
  subst ev
  obtain rfl : u = Value.ref a := r1
  obtain ⟨its, rv, pl, hz⟩ := I1.list (SqL.of hq)
  refine call_reversed_list pl.isList (args_nil ?_)
  have up : ∀ b o, s1.heap.get? b = some o → (s1.heap.push (revObj a ((its.toArray.size : Int) - 1))).get? b = some o := fun b o z => Heap.get?_push_of_some _ z
  have I2 : Inv X pins σ H1 { s1 with heap := s1.heap.push (revObj a ((its.toArray.size : Int) - 1)) } := I1.kept (t' := s1.toks) up
  obtain ⟨f0, f1, f2, f3, f4, f5⟩ := I1.fpOk (H' := H1) (b := s1.heap.objs.size) (Nat.le_refl _) (I1.hok.fresh (Nat.le_refl _))
  have isl := pl.isList
  obtain ⟨ol, hol, _⟩ := id isl
  have ne : a ≠ s1.heap.objs.size := Nat.ne_of_lt (Heap.lt_size hol)
  have small : its.toArray.size ≤ sizeLine := by rw [List.size_toArray, ← rv.length]; exact hz
  refine call_list_rev (s := { s1 with heap := s1.heap.push (revObj a ((its.toArray.size : Int) - 1)) }) (I1.ok.hd hc) ⟨_, Heap.get?_push_size _ rfl, rfl, rfl⟩ (isl.push _) ne small fun s2 acc c' mv hS hi => ?_
  have sz : (s1.heap.push (revObj a ((its.toArray.size : Int) - 1))).objs.size = s1.heap.objs.size + 1 := Heap.size_push ..
  have keep : ∀ b o, b ∉ [s1.heap.objs.size] → s1.heap.get? b = some o → s2.heap.get? b = some o := fun b o nb z => by
    have lt := Heap.lt_size z
    refine mv.heap b o (fun y => ?_) (Heap.get?_push_of_some _ (up b o z))
    rcases List.mem_cons.mp y with y | y
    · have y : b = (s1.heap.push (revObj a ((its.toArray.size : Int) - 1))).objs.size := y
      rw [sz] at y
      have lt : b < s1.heap.objs.size := lt
      exact absurd lt (by rw [y]; exact Nat.not_lt.mpr (Nat.le_succ _))
    · exact nb y
  have I3 : Inv X pins σ (upd H1 (s1.heap.objs.size + 1) (.lst xs.reverse)) { s1 with heap := s2.heap, toks := s2.toks } := I1.turnedNew (t' := s2.toks) (ch := [s1.heap.objs.size]) keep (fun b m => by rw [List.mem_singleton.mp m]; exact ⟨f0, f1, f2, f3, f4, f5⟩) (Nat.le_succ _)
    ⟨by rw [List.length_reverse]; exact hz, acc.toList, c', RT.vals_rev rv hi, by rw [Array.toArray_toList, ← sz]; exact hS⟩
  have eS : s2 = { s1 with heap := s2.heap, toks := s2.toks } := by
    have z := Moved.eq_with mv
    rw [z]
  rw [eS]
  refine ⟨.ref (s1.heap.objs.size + 1), _, I3, ?_, q _ (I1.hok.fresh (Nat.le_succ _))⟩
  show Value.ref _ = Value.ref _
  exact congrArg Value.ref sz
end Cs
set_option maxHeartbeats 4000000
namespace Cs
open PySem PySem.Spec PyProof.Rows L2
/-! ### dicts over a walk -/
section
variable {J : It} {n : Nat} {G : Hp → Prop} {Y : Nat → Hp → V → Hp → Prop}
theorem dc_it (w : Walk J n G Y) {g : TG} {tt : TT} {tk tv : TE} {vs : List Nat} {σ : L2.St} {H1 : Hp} {D : Addr} {Qd : Hp → Prop} (Pv : Nat → Hp → Prop) (h0 : Pv 0 (upd H1 D (.dK []))) (hG : ∀ i H, i ≤ n → Pv i H → G H)
    (hs : ∀ i x H H', i < n → Pv i H → Y i H x H' → g x (wipe σ vs) H' fun σ2 H2 => wipe σ2 vs = wipe σ vs ∧ tt σ2 H2 fun b H3 =>
      if b = true then tk σ2 H3 fun y H4 => tv σ2 H4 fun z H5 => ∃ kvs k, y = kV k ∧ H5 D = some (.dK kvs) ∧ kvs.length < sizeLine ∧ Pv (i + 1) (upd H5 D (.dK (putK kvs k z))) else Pv (i + 1) H3) (hd : ∀ H, Pv n H → Qd H) :
    ∃ W : Nat → Nat → Hp → Prop, (∃ m, W 0 m (upd H1 D (.dK []))) ∧ ∀ i m H, W i m H →
      (J.stop i H ∧ Qd H) ∨ (J.go i H ∧ ∃ Nx : Hp → Prop, (∀ H', Nx H' → ∃ m', m' < m ∧ W (i + 1) m' H') ∧ ∀ x H', J.yld i H x H' → g x (wipe σ vs) H' fun σ2 H2 => wipe σ2 vs = wipe σ vs ∧ tt σ2 H2 fun b H3 =>
        if b = true then tk σ2 H3 fun y H4 => tv σ2 H4 fun z H5 => ∃ kvs k, y = kV k ∧ H5 D = some (.dK kvs) ∧ kvs.length < sizeLine ∧ Nx (upd H5 D (.dK (putK kvs k z))) else Nx H3) := by
  refine ⟨fun i m H => m = n - i ∧ i ≤ n ∧ Pv i H, ⟨n, rfl, Nat.zero_le _, h0⟩, ?_⟩
  rintro i m H ⟨rfl, hi, p⟩
  have q := hG i H hi p
  by_cases l : i < n
  · exact .inr ⟨w.goes i H l q, Pv (i + 1), fun H' p' => ⟨n - (i + 1), by omega, rfl, l, p'⟩, fun x H' y => hs i x H H' l p (w.yields i H x H' l q y)⟩
  · obtain rfl : i = n := by omega
    exact .inl ⟨w.stops H q, hd H p⟩
end
section
variable {α β γ : Type} {W : Wd} {K : PySem.W.Frag} {ta tb tc tk tv : TE} {t : Ty α} {u : Ty β} {x x' : α} {y : β} {tt uu : TT} {ar : TA} {fs : List SF} {i j : Int} {E : XK} {ts us : TS} {D : Ends} {z z' : Str} {g : TG} {as : α → List (Nat × SF)} {wi : TI}
theorem keys_put {ks : List Str} {kvs : List (Key × V)} {z : Str} {v : V} (h : ∀ z : Str, (valV kvs (Sum.inr z)).isSome = decide (z ∈ ks)) : ∀ y : Str, (valV (putK kvs (Sum.inr z) v) (Sum.inr y)).isSome = decide (y ∈ ks ++ [z]) := fun y => by
  rw [valV_put]
  by_cases e : y = z
  · subst e
    rw [if_pos rfl]
    simp
  · rw [if_neg (fun q => e (Sum.inr.inj q)), h y]
    rw [Bool.eq_iff_iff, decide_eq_true_iff, decide_eq_true_iff]
    simp [e]
theorem len_put {kvs : List (Key × V)} {n : Nat} {k : Key} {v : V} (h : kvs.length ≤ n) : (putK kvs k v).length ≤ n + 1 := Nat.le_trans (length_putK _ _ _) (by omega)
/-- known = {f(x): e for x in xs}, used as a set of names -/
theorem go_dc {xs : List α} {f : α → Str} {vs : List Nat} {n : Nat} (h : Iv W wi t xs) (tg : Tgt g t as) (hi : ∀ x, ∀ p ∈ as x, p.1 ∈ vs) (hl : xs.length < sizeLine)
    (hk : ∀ D φ F x, (∀ f ∈ W.F, f ∈ F) → x ∈ xs → Ev ((W.el D φ F vs).puts (as x)) tk tSt (f x))
    (hv : ∀ D φ F x, (∀ f ∈ W.F, f ∈ F) → x ∈ xs → ∃ b, Ev ((W.el D φ F vs).puts (as x)) tv tBl b)
    (k : ∀ p, Go ⟨W.H0, W.M, p :: W.S, cell p (cKeys (xs.map f)) :: W.L, W.F, W.G.set n (some (tRf.is p))⟩ us D) (hp : ∀ (W : Wd) x, (W.puts (as x)).H0 = W.H0 ∧ (W.puts (as x)).M = W.M ∧ (W.puts (as x)).S = W.S ∧ (W.puts (as x)).L = W.L ∧ (W.puts (as x)).F = W.F := by intros; exact ⟨rfl, rfl, rfl, rfl, rfl⟩) :
    Go W (tSeq (tAsg (tDc wi g tYes tk tv vs) (gName n)) us) D := fun σ H o => by
  refine h σ H o _ fun J H1 f0 g1 fp wk => ?_
  intro D nD
  obtain ⟨Y, wY, hY⟩ := wk.ex
  let Wk : Nat → Wd := fun k => ⟨W.H0, W.M, D :: W.S, cell D (cKeys ((xs.take k).map f)) :: W.L, f0 :: W.F, W.G⟩
  have start : Ok (Wk 0) σ (upd H1 D (.dK [])) := by
    obtain ⟨o1, up⟩ := g1.ok.cell (ψ := cKeys ([] : List Str)) nD ⟨[], rfl, Nat.le_refl _, fun _ => rfl⟩
    exact Ok.know o1 (f := f0) (f0.mono up fp)
  have ff : ∀ k H, Ok (Wk k) σ H → f0.p (hid (D :: W.S) H) := fun k H o => o.facts f0 (List.mem_cons_self ..)
  refine dc_it wY (fun k H' => Ok (Wk k) σ H') start (fun k H' _ o' => ⟨_, ff k H' o'⟩) ?_ ?_
  · rintro k v H0' H' hk' o' y
    obtain ⟨e, x, hx, rx⟩ := hY k H0' v H' _ hk' (ff k H0' o') o'.al y
    have o' := o'.same e
    have xm := List.mem_of_getElem? hx
    have sub : ∀ q ∈ W.F, q ∈ f0 :: W.F := fun q m => List.mem_cons_of_mem _ m
    refine tg _ _ H' v x (Ok.wipe (vs := vs) o') rx _ fun σ' oe ew => ?_
    refine ⟨by rw [ew vs (hi x), wipe_twice], ?_⟩
    have back : ∀ H2, Go1 (((W.el D (cKeys ((xs.take k).map f)) (f0 :: W.F) vs).puts (as x))) σ' H' H2 → Ok (Wk k) σ H2 := fun H2 g2 => by
      obtain ⟨p1, p2, p3, p4, p5⟩ := hp (W.el D (cKeys ((xs.take k).map f)) (f0 :: W.F) vs) x
      have o2 := g2.ok
      have up := g2.up
      rw [p3] at up
      have o3 : Ok { Wk k with G := ((W.el D (cKeys ((xs.take k).map f)) (f0 :: W.F) vs).puts (as x)).G } σ' H2 := by
        have : ((W.el D (cKeys ((xs.take k).map f)) (f0 :: W.F) vs).puts (as x)) = { Wk k with G := ((W.el D (cKeys ((xs.take k).map f)) (f0 :: W.F) vs).puts (as x)).G } := by
          generalize ((W.el D (cKeys ((xs.take k).map f)) (f0 :: W.F) vs).puts (as x)) = Z at p1 p2 p3 p4 p5 ⊢
          cases Z
          cases p1; cases p2; cases p3; cases p4; cases p5
          rfl
        rw [← this]
        exact o2
      exact Ok.swap (W := Wk k) o' o3 up
    dsimp only [tYes]
    rw [if_pos rfl]
    refine hk D _ _ x sub xm _ _ oe _ fun y H2 g2 ry => ?_
    obtain ⟨b, hb⟩ := hv D (cKeys ((xs.take k).map f)) (f0 :: W.F) x sub xm
    refine hb _ _ g2.ok _ fun w H3 g3 _ => ?_
    have o3 := back H3 (g2.trans g3)
    obtain ⟨ob, hob, kvs, rfl, hlen, hkeys⟩ := o3.at_ _ (List.mem_cons_self ..)
    have hlen' : kvs.length ≤ k := Nat.le_trans hlen (by rw [List.length_map, List.length_take]; omega)
    refine ⟨kvs, Sum.inr (f x), ry, hob, by omega, ?_⟩
    have e3 : (xs.take (k + 1)).map f = (xs.take k).map f ++ [f x] := by rw [take_snoc hx, List.map_append]; rfl
    exact (o3.write (ψ := cKeys ((xs.take (k + 1)).map f)) (o := .dK (putK kvs (Sum.inr (f x)) w)) rfl ⟨_, rfl, by rw [e3, List.length_append]; exact len_put hlen, by rw [e3]; exact keys_put hkeys⟩).ok
  · intro H' o2
    have e : xs.take xs.length = xs := List.take_length
    have o3 : Ok ⟨W.H0, W.M, D :: W.S, cell D (cKeys (xs.map f)) :: W.L, f0 :: W.F, W.G⟩ σ H' := by
      have : Ok (Wk xs.length) σ H' := o2
      have e2 : Wk xs.length = ⟨W.H0, W.M, D :: W.S, cell D (cKeys (xs.map f)) :: W.L, f0 :: W.F, W.G⟩ := by
        show (⟨W.H0, W.M, D :: W.S, cell D (cKeys ((xs.take xs.length).map f)) :: W.L, f0 :: W.F, W.G⟩ : Wd) = _
        rw [e]
      rw [e2] at this
      exact this
    have o4 : Ok ⟨W.H0, W.M, D :: W.S, cell D (cKeys (xs.map f)) :: W.L, W.F, W.G⟩ σ H' := ⟨o3.nod, o3.own, o3.at_, o3.ms, o3.al, o3.bt, o3.len, fun q m => o3.facts q (List.mem_cons_of_mem _ m), o3.slots⟩
    exact k D _ _ (Ok.put (i := n) (f := tRf.is D) o4 rfl)
/-- a name in such a dict -/
theorem et_inK {s : Nat} {p : Addr} {ks : List Str} (hs : W.G[s]? = some (some (tRf.is p))) (hL : cell p (cKeys ks) ∈ W.L) (ha : Ev W ta tSt z) : Et W (tB (tDIn ta (tVar s))) (decide (z ∈ ks)) := fun σ H o Q q =>
  ha σ H o _ fun v H1 g1 r1 => by
    obtain ⟨w, h1, rfl⟩ := g1.ok.slots s _ hs
    obtain ⟨ob, hob, kvs, rfl, _, hk⟩ := g1.ok.at_ _ hL
    refine ⟨.ref p, h1, p, valV kvs (Sum.inr z), rfl, ?_, _, rfl, ?_⟩
    · rw [show v = kV (Sum.inr z) from r1]
      exact DGet.k hob
    · rw [hk]
      exact q H1 g1
theorem et_niK {s : Nat} {p : Addr} {ks : List Str} (hs : W.G[s]? = some (some (tRf.is p))) (hL : cell p (cKeys ks) ∈ W.L) (ha : Ev W ta tSt z) : Et W (tB (tDNotIn ta (tVar s))) (!decide (z ∈ ks)) := fun σ H o Q q =>
  ha σ H o _ fun v H1 g1 r1 => by
    obtain ⟨w, h1, rfl⟩ := g1.ok.slots s _ hs
    obtain ⟨ob, hob, kvs, rfl, _, hk⟩ := g1.ok.at_ _ hL
    refine ⟨.ref p, h1, p, valV kvs (Sum.inr z), rfl, ?_, _, rfl, ?_⟩
    · rw [show v = kV (Sum.inr z) from r1]
      exact DGet.k hob
    · rw [hk]
      exact q H1 g1
/-- fallen[name] = e -/
theorem go_putK {s : Nat} {p : Addr} {ks : List Str} {R : List RS} (hs : W.G[s]? = some (some (tRf.is p))) (hL : W.L.Perm (cell p (cKeys ks) :: R)) (ha : Ev W ta tSt z) (hb : Ev W tb t x) (hl : ks.length < sizeLine) (k : ∀ σ H, Ok { W with L := cell p (cKeys (ks ++ [z])) :: R } σ H → D.nx σ H) : Go W (sDPut (tVar s) ta tb) D := fun σ H o =>
  hb σ H o _ fun v H1 g1 r1 => by
    obtain ⟨w, h1, rfl⟩ := g1.ok.slots s _ hs
    refine ⟨.ref p, h1, ha σ H1 g1.ok _ fun y H2 g2 ry => ?_⟩
    obtain ⟨ob, hob, kvs, rfl, hlen, hk⟩ := g2.ok.at_ (cell p (cKeys ks)) (hL.mem_iff.mpr (List.mem_cons_self ..))
    refine ⟨p, _, rfl, ?_, k _ _ ((g2.ok.perm hL).write (ψ := cKeys (ks ++ [z])) (o := .dK (putK kvs (Sum.inr z) v)) rfl ⟨_, rfl, by rw [List.length_append]; exact len_put hlen, keys_put hk⟩).ok⟩
    rw [show y = kV (Sum.inr z) from ry]
    exact DPut.k hob (by omega)
/-! ### while -/
theorem go_while {ι : Type} (J : ι → Wd) (Pv : ι → Prop) (μ : ι → Nat) (c0 : ι) (p0 : Pv c0) (w0 : Wk W (J c0)) (hs : ∀ c, Pv c → ∃ b, Et (J c) tt b ∧ (b = true → Go (J c) ts { D with nx := fun σ H => ∃ c', Pv c' ∧ μ c' < μ c ∧ Ok (J c') σ H, ct := fun σ H => ∃ c', Pv c' ∧ μ c' < μ c ∧ Ok (J c') σ H, bk := D.nx }) ∧ (b = false → ∀ σ H, Ok (J c) σ H → D.nx σ H)) :
    Go W (tWhile tt ts) D := fun σ H o => by
  refine ⟨fun m σ H => ∃ c, Pv c ∧ m = μ c ∧ Ok (J c) σ H, ⟨μ c0, c0, p0, rfl, w0 σ H o⟩, ?_⟩
  rintro m σ H ⟨c, pc, rfl, o'⟩
  obtain ⟨b, hb, h1, h2⟩ := hs c pc
  refine hb σ H o' _ fun H1 g1 => ?_
  cases b with
  | true => exact ⟨fun σ' H' => ∃ c', Pv c' ∧ μ c' < μ c ∧ Ok (J c') σ' H', fun σ' H' ⟨c', a1, a2, a3⟩ => ⟨μ c', a2, c', a1, rfl, a3⟩, h1 rfl σ H1 g1.ok⟩
  | false => exact h2 rfl σ H1 g1.ok
/-! ### numbers and texts -/
theorem ev_shl (ha : Ev W ta tInt i) (hb : Ev W tb tInt j) (c : CPow i j) : Ev W (tOp (rI CPow fun i j => .int (i * 2 ^ j.toNat)) ta tb) tInt (i * 2 ^ j.toNat) := fun σ H o Q q =>
  ha σ H o _ fun v H1 g1 r1 => hb σ H1 g1.ok _ fun v2 H2 g2 r2 => ⟨i, j, r1, r2, c, q _ H2 (g1.trans g2) rfl⟩
theorem ev_ixS {n : Int} {c : Nat} (ha : Ev W ta tSt z) (hb : Ev W tb tInt n) (hl : z.length ≤ sizeLine) (e : atI z.cps.toList n = some c) : Ev W (tOp rIxS ta tb) tSt ⟨#[c]⟩ := fun σ H o Q q =>
  ha σ H o _ fun v H1 g1 r1 => hb σ H1 g1.ok _ fun v2 H2 g2 r2 => ⟨z, n, c, r1, r2, hl, e, q _ H2 (g1.trans g2) rfl⟩
theorem ev_listRev {xs : List α} (h : Ev W ta (tLs K t) xs) : Ev W (tListRev ta) (tLs K t) xs.reverse := fun σ H o Q q => h σ H o _ fun v H1 g1 ⟨p, vs, e, s, al⟩ =>
  ⟨p, vs, e, hid_sub _ _ s, fun l nl => q _ _ (g1.trans (g1.ok.new nl)) ⟨l, vs.reverse, rfl, by rw [hid_of (g1.ok.off nl)]; exact upd_same, by
    have rev : ∀ {r : V → α → Prop} (vs : List V) (xs : List α), All2 r vs xs → All2 r vs.reverse xs.reverse := by
      intro r vs
      induction vs with
      | nil => intro xs h; cases xs with
        | nil => exact trivial
        | cons _ _ => exact h.elim
      | cons v vs ih => intro xs h; cases xs with
        | nil => exact h.elim
        | cons x xs =>
          rw [List.reverse_cons, List.reverse_cons]
          exact (ih xs h.2).app (ws := [v]) (ys := [x]) ⟨h.1, trivial⟩
    exact rev _ _ (All2.mono (fun _ _ => t.mono (g1.ok.new nl).up) al)⟩⟩
end
end Cs
set_option maxHeartbeats 4000000
namespace Cs
open PySem PySem.Spec PyProof.Rows L2
/-! ### slots that are forgotten -/
def Sb : List (Option SF) → List (Option SF) → Prop
  | [], [] => True
  | _ :: G, none :: G' => Sb G G'
  | a :: G, some f :: G' => a = some f ∧ Sb G G'
  | _, _ => False
theorem Sb.len : ∀ {G G' : List (Option SF)}, Sb G G' → G.length = G'.length
  | [], [], _ => rfl
  | _ :: G, none :: G', h => by
    have q : Sb G G' := h
    simp [Sb.len q]
  | _ :: _, some _ :: _, h => by simp [Sb.len h.2]
  | [], _ :: _, h => h.elim
  | _ :: _, [], h => h.elim
theorem Sb.get : ∀ {G G' : List (Option SF)} {i : Nat} {f : SF}, Sb G G' → G'[i]? = some (some f) → G[i]? = some (some f)
  | [], [], _, _, _, q => by simp at q
  | _ :: _, none :: _, 0, _, _, q => by simp at q
  | _ :: G, none :: G', i + 1, f, h, q => by
    have h' : Sb G G' := h
    have q' : G'[i]? = some (some f) := q
    show G[i]? = some (some f)
    exact Sb.get h' q'
  | a :: _, some g :: _, 0, f, h, q => by
    obtain ⟨e, _⟩ := h
    subst e
    simpa using q
  | _ :: G, some _ :: G', i + 1, f, h, q => by
    have q' : G'[i]? = some (some f) := q
    show G[i]? = some (some f)
    exact Sb.get h.2 q'
  | [], _ :: _, _, _, h, _ => h.elim
  | _ :: _, [], _, _, h, _ => h.elim
theorem Ok.sb {H0 : Hp} {M S : List Addr} {L : List RS} {F F' : List FF} {G G' : List (Option SF)} {σ : L2.St} {H : Hp} (o : Ok ⟨H0, M, S, L, F, G⟩ σ H) (h : Sb G G') (hF : ∀ f, f ∈ F' → f ∈ F := by first | (intro f m; exact m) | (intro f m; cases m) | (intro f m; exact List.mem_cons_of_mem _ m)) : Ok ⟨H0, M, S, L, F', G'⟩ σ H :=
  Wk.of (H0 := H0) (M := M) (S := S) (L := L) h.len (fun i f q => h.get q) hF σ H o
theorem go_at {W : Wd} {σ : L2.St} {H : Hp} {ts : TS} {D : Ends} (o : Ok W σ H) (h : Go W ts D) : ts D σ H := h σ H o
theorem ev_fracI {W : Wd} {K : PySem.W.Frag} {ta : TE} {n : Int} (ha : Ev W ta tInt n) : Ev W (tTup (tCons ta (tCons (tC (.int 1)) tNil))) (tFr K) (n : Rat) := ev_frac ha ev_int rfl rfl
/-! ### sums -/
theorem zr {n : Nat} {x : Rat} (h : Sz n x) {m : Nat} (k : n ≤ m) : Sz m x := h.mono k
def rsum (rs : List Rat) : Rat := rs.foldl (fun x y => x + y) 0
def rpre (rs : List Rat) (i : Nat) : Rat := rsum (rs.take i)
theorem rpre_zero (rs : List Rat) : rpre rs 0 = 0 := rfl
theorem rpre_succ {rs : List Rat} {i : Nat} {r : Rat} (h : rs[i]? = some r) : rpre rs (i + 1) = rpre rs i + r := by
  unfold rpre rsum
  rw [take_snoc h, List.foldl_append]
  rfl
theorem rpre_all (rs : List Rat) : rpre rs rs.length = rsum rs := by unfold rpre; rw [List.take_length]
theorem sz_addN {n m : Nat} {r s : Rat} (h : Sz n r) (g : Sz m s) : Sz (n + m + 1) (r + s) := by
  rw [← add_div]
  exact sz_div (Int.mul_ne_zero (den_ne r) (den_ne s)) (add_lt (pow_lt h.nn g.dd) (by rw [Nat.add_comm n m]; exact pow_lt g.nn h.dd)) (Nat.lt_trans (pow_lt h.dd g.dd) (Nat.pow_lt_pow_right (by decide) (by omega)))
theorem sz_mulN {n m : Nat} {r s : Rat} (h : Sz n r) (g : Sz m s) : Sz (n + m) (r * s) := by
  rw [← mul_div]
  exact sz_div (Int.mul_ne_zero (den_ne r) (den_ne s)) (pow_lt h.nn g.nn) (pow_lt h.dd g.dd)
theorem rpre_sz {rs : List Rat} {n : Nat} (h : ∀ r ∈ rs, Sz n r) : ∀ i, i ≤ rs.length → Sz ((n + 1) * i + 1) (rpre rs i)
  | 0, _ => by rw [rpre_zero]; exact sz_zero (by omega)
  | i + 1, hi => by
    have hx : rs[i]? = some rs[i] := List.getElem?_eq_getElem (by omega)
    rw [rpre_succ hx]
    have := sz_addN (rpre_sz h i (by omega)) (h _ (List.getElem_mem (by omega : i < rs.length)))
    refine this.mono ?_
    rw [Nat.mul_succ]
    omega
theorem rsum_sz {rs : List Rat} {n : Nat} (h : ∀ r ∈ rs, Sz n r) : Sz ((n + 1) * rs.length + 1) (rsum rs) := by
  have := rpre_sz h rs.length (Nat.le_refl _)
  rwa [rpre_all] at this
theorem foldl_add (rs : List Rat) : ∀ a : Rat, rs.foldl (fun x y => x + y) a = a + rs.foldl (fun x y => x + y) 0 := by
  induction rs with
  | nil => intro a; show a = a + 0; grind
  | cons r rs ih =>
    intro a
    show rs.foldl _ (a + r) = a + rs.foldl _ (0 + r)
    rw [ih (a + r), ih (0 + r)]
    grind
theorem rsum_cons (r : Rat) (rs : List Rat) : rsum (r :: rs) = r + rsum rs := by
  show rs.foldl _ (0 + r) = _
  rw [foldl_add]
  show 0 + r + rsum rs = _
  grind
theorem rsum_nil : rsum [] = 0 := rfl
theorem rsum_app (a b : List Rat) : rsum (a ++ b) = rsum a + rsum b := by
  induction a with
  | nil => show rsum b = 0 + rsum b; grind
  | cons x a ih => rw [List.cons_append, rsum_cons, rsum_cons, ih]; grind
theorem rsum_perm {a b : List Rat} (h : a.Perm b) : rsum a = rsum b := by
  induction h with
  | nil => rfl
  | cons x _ ih => rw [rsum_cons, rsum_cons, ih]
  | swap x y l => rw [rsum_cons, rsum_cons, rsum_cons, rsum_cons]; grind
  | trans _ _ h1 h2 => exact h1.trans h2
theorem rsum_nn {a : List Rat} (h : ∀ x ∈ a, 0 ≤ x) : 0 ≤ rsum a := by
  induction a with
  | nil => show (0 : Rat) ≤ 0; grind
  | cons x a ih =>
    rw [rsum_cons]
    have := h x (List.mem_cons_self ..)
    have := ih fun y m => h y (List.mem_cons_of_mem _ m)
    grind
/-- more items, a greater sum -/
theorem rsum_sub {a b : List Rat} (h : a.Sublist b) (nn : ∀ x ∈ b, 0 ≤ x) : rsum a ≤ rsum b := by
  induction h with
  | slnil => show (0 : Rat) ≤ 0; grind
  | cons x _ ih =>
    rw [rsum_cons]
    have := nn x (List.mem_cons_self ..)
    have := ih fun y m => nn y (List.mem_cons_of_mem _ m)
    grind
  | cons_cons x _ ih =>
    rw [rsum_cons, rsum_cons]
    have := ih fun y m => nn y (List.mem_cons_of_mem _ m)
    grind
/-! ### bonds -/
structure Bd where
  name : Str
  issuer : Str
  units : Int
  face : Rat
  cross : Option Rat
structure BdOk (b : Bd) : Prop where
  u0 : 0 ≤ b.units
  u1 : b.units < 1000
  f0 : 0 ≤ b.face
  fs : Sz 10 b.face
  cs : ∀ c, b.cross = some c → Sz 10 c
def sizeB (b : Bd) : Rat := (b.units : Rat) * b.face
theorem sizeB_sz {b : Bd} (h : BdOk b) : Sz 20 (sizeB b) := by
  have : Sz 10 (b.units : Rat) := Sz.int (by have := h.u0; have := h.u1; show b.units.natAbs < 1024; omega) (by decide)
  exact sz_mulN this h.fs
theorem sizeB_nn {b : Bd} (h : BdOk b) : 0 ≤ sizeB b := by
  have h1 : (0 : Rat) ≤ (b.units : Rat) := by exact_mod_cast h.u0
  exact Rat.mul_nonneg h1 h.f0
/-- what the others that are in default weigh on a bond -/
def load (b : Bd) (others : List Bd) : Rat := rsum ((others.filter fun o => decide (o.issuer = b.issuer)).map sizeB)
def boundB (b : Bd) (others : List Bd) : Bool := match b.cross with
  | none => false
  | some c => decide (0 < cmpR (load b others) c)
theorem cmpR_pos {r s : Rat} : 0 < cmpR r s ↔ s < r := by
  have h3 := cmpR_three r s
  rw [← cmpR_gt]
  omega
theorem boundB_iff {b : Bd} {others : List Bd} : boundB b others = true ↔ ∃ c, b.cross = some c ∧ c < load b others := by
  unfold boundB
  cases h : b.cross with
  | none => simp
  | some c => simp [cmpR_pos]
theorem filter_sub {α : Type} {p q : α → Bool} (h : ∀ x, p x = true → q x = true) : ∀ l : List α, (l.filter p).Sublist (l.filter q)
  | [] => List.Sublist.refl _
  | x :: l => by
    have ih := filter_sub h l
    cases hp : p x with
    | true => rw [List.filter_cons_of_pos hp, List.filter_cons_of_pos (h x hp)]; exact ih.cons_cons x
    | false =>
      rw [List.filter_cons_of_neg (by rw [hp]; decide)]
      cases hq : q x with
      | true => rw [List.filter_cons_of_pos hq]; exact ih.cons x
      | false => rw [List.filter_cons_of_neg (by rw [hq]; decide)]; exact ih
def inN (ks : List Str) (bs : List Bd) : List Bd := bs.filter fun b => decide (b.name ∈ ks)
def Closed (bs : List Bd) (ex T : List Str) : Prop := ∀ b ∈ bs, b.name ∉ T → b.name ∉ ex → boundB b (inN T bs) = false
theorem load_mono {b : Bd} {bs : List Bd} {T U : List Str} (ok : ∀ b ∈ bs, BdOk b) (h : ∀ z, z ∈ T → z ∈ U) : load b (inN T bs) ≤ load b (inN U bs) := by
  unfold load inN
  refine rsum_sub (List.Sublist.map _ ?_) fun x m => ?_
  · rw [List.filter_filter, List.filter_filter]
    refine filter_sub (fun o ho => ?_) _
    simp only [Bool.and_eq_true, decide_eq_true_eq] at ho ⊢
    exact ⟨ho.1, h _ ho.2⟩
  · obtain ⟨o, m1, rfl⟩ := List.mem_map.mp m
    exact sizeB_nn (ok o (List.mem_filter.mp (List.mem_filter.mp m1).1).1)
theorem boundB_mono {b : Bd} {bs : List Bd} {T U : List Str} (ok : ∀ b ∈ bs, BdOk b) (h : ∀ z, z ∈ T → z ∈ U) (q : boundB b (inN T bs) = true) : boundB b (inN U bs) = true := by
  obtain ⟨c, e, l⟩ := boundB_iff.mp q
  exact boundB_iff.mpr ⟨c, e, by have := load_mono (b := b) ok h; grind⟩
/-- the least closed set -/
structure Least (bs : List Bd) (ow ex ks : List Str) : Prop where
  own : ∀ z, z ∈ ow → z ∈ ks
  cl : Closed bs ex ks
  least : ∀ T, (∀ z, z ∈ ow → z ∈ T) → Closed bs ex T → ∀ z, z ∈ ks → z ∈ T
theorem inN_perm {bs cs : List Bd} (h : bs.Perm cs) (T : List Str) : (inN T bs).Perm (inN T cs) := h.filter _
theorem load_perm {b : Bd} {os us : List Bd} (h : os.Perm us) : load b os = load b us := rsum_perm ((h.filter _).map _)
theorem boundB_perm {b : Bd} {os us : List Bd} (h : os.Perm us) : boundB b os = boundB b us := by
  unfold boundB
  cases b.cross with
  | none => rfl
  | some c => rw [load_perm h]
theorem Closed.perm {bs cs : List Bd} (h : bs.Perm cs) {ex T : List Str} (c : Closed bs ex T) : Closed cs ex T := fun b m h1 h2 => by
  rw [← boundB_perm (inN_perm h T)]
  exact c b (h.mem_iff.mpr m) h1 h2
theorem Least.mem_iff {bs cs : List Bd} {own own' ex ks ks' : List Str} (hp : bs.Perm cs) (ho : ∀ z, z ∈ own ↔ z ∈ own') (l : Least bs own ex ks) (l' : Least cs own' ex ks') (z : Str) : z ∈ ks ↔ z ∈ ks' :=
  ⟨fun m => l.least ks' (fun y q => l'.own y ((ho y).mp q)) (l'.cl.perm hp.symm) z m, fun m => l'.least ks (fun y q => l.own y ((ho y).mpr q)) (l.cl.perm hp) z m⟩
/-- one turn: those that are bound are added -/
def bnd (bs : List Bd) (ex ks : List Str) : List Str := (((bs.filter fun b => !decide (b.name ∈ ks) && !decide (b.name ∈ ex)).filter fun b => boundB b (inN ks bs))).map Bd.name
theorem bnd_new {bs : List Bd} {ex ks : List Str} {z : Str} (h : z ∈ bnd bs ex ks) : ∃ b ∈ bs, b.name = z ∧ b.name ∉ ks ∧ b.name ∉ ex ∧ boundB b (inN ks bs) = true := by
  obtain ⟨b, m, rfl⟩ := List.mem_map.mp h
  obtain ⟨m1, m2⟩ := List.mem_filter.mp m
  obtain ⟨m3, m4⟩ := List.mem_filter.mp m1
  simp only [Bool.and_eq_true, Bool.not_eq_true', decide_eq_false_iff_not] at m4
  exact ⟨b, m3, rfl, m4.1, m4.2, m2⟩
theorem bnd_closed {bs : List Bd} {ex ks : List Str} (h : bnd bs ex ks = []) : Closed bs ex ks := fun b m h1 h2 => by
  cases q : boundB b (inN ks bs) with
  | false => rfl
  | true =>
    have : b.name ∈ bnd bs ex ks := List.mem_map.mpr ⟨b, List.mem_filter.mpr ⟨List.mem_filter.mpr ⟨m, by simp [h1, h2]⟩, q⟩, rfl⟩
    rw [h] at this; cases this
theorem bnd_least {bs : List Bd} {ex ks T : List Str} (ok : ∀ b ∈ bs, BdOk b) (hk : ∀ z, z ∈ ks → z ∈ T) (c : Closed bs ex T) : ∀ z, z ∈ bnd bs ex ks → z ∈ T := fun z m => by
  obtain ⟨b, mb, rfl, h1, h2, h3⟩ := bnd_new m
  by_cases q : b.name ∈ T
  · exact q
  · have := c b mb q h2
    rw [boundB_mono ok hk h3] at this
    cases this
/-- how many bonds are not yet in -/
def left (bs : List Bd) (ks : List Str) : Nat := (bs.filter fun b => !decide (b.name ∈ ks)).length
theorem left_lt {bs : List Bd} {ex ks : List Str} (h : bnd bs ex ks ≠ []) : left bs (ks ++ bnd bs ex ks) < left bs ks := by
  obtain ⟨z, m⟩ : ∃ z, z ∈ bnd bs ex ks := by
    cases q : bnd bs ex ks with
    | nil => exact absurd q h
    | cons z _ => exact ⟨z, List.mem_cons_self ..⟩
  obtain ⟨b, mb, rfl, h1, _, _⟩ := bnd_new m
  unfold left
  have sub : ((bs.filter fun b => !decide (b.name ∈ ks ++ bnd bs ex ks))).Sublist (bs.filter fun b => !decide (b.name ∈ ks)) := filter_sub (fun o ho => by
    simp only [Bool.not_eq_true', decide_eq_false_iff_not] at ho ⊢
    exact fun z => ho (List.mem_append_left _ z)) _
  rcases Nat.lt_or_ge ((bs.filter fun b => !decide (b.name ∈ ks ++ bnd bs ex ks)).length) ((bs.filter fun b => !decide (b.name ∈ ks)).length) with q | q
  · exact q
  · have e := sub.eq_of_length_le q
    have : b ∈ bs.filter fun b => !decide (b.name ∈ ks) := List.mem_filter.mpr ⟨mb, by simp [h1]⟩
    rw [← e] at this
    have := (List.mem_filter.mp this).2
    simp [m] at this
theorem left_le (bs : List Bd) (ks : List Str) : left bs ks ≤ bs.length := List.length_filter_le ..
theorem bnd_len (bs : List Bd) (ex ks : List Str) : (bnd bs ex ks).length ≤ bs.length := by
  unfold bnd
  rw [List.length_map]
  exact Nat.le_trans (List.length_filter_le ..) (List.length_filter_le ..)
end Cs
set_option maxHeartbeats 4000000
namespace Cs
open PySem PySem.Spec PyProof.Rows L2
section
variable {X : Cx} {k : Nat} {x : Str} {ps : List Str} {sp : Sp} {p pos : Pos} {e : Expr} {es : List Expr} {t : TA}
/-- a def that may be called with its last argument left out -/
def CalD (P : Program) (w : World) (K : PySem.W.Frag) (mg : Str → Option Value) (base : Heap) (k : Nat) (x : Str) (ps : List Str) (dvs : List V) (sp : Sp) : Prop :=
  ∃ (f : Addr) (fd : FuncData) (ds : List Value), FnOk P w K mg base CX0 k f fd ps sp ∧ mg x = some (.ref f) ∧ PySem.W.keepIn K (.ref f) = true ∧ Binds K fd ps ds ∧ Vals dvs ds
theorem CalD.mono {P : Program} {w : World} {K : PySem.W.Frag} {mg : Str → Option Value} {base : Heap} {j k : Nat} {dvs : List V} (c : CalD P w K mg base j x ps dvs sp) (h : j ≤ k) : CalD P w K mg base k x ps dvs sp := by
  obtain ⟨f, fd, ds, F, g⟩ := c
  exact ⟨f, fd, ds, F.mono h, g⟩
theorem pe_calD {dvs : List V} (c : CalD X.prog X.w X.K X.mg X.base k x ps dvs sp) (hr : Room k X.A) (hg : Gl X x) (ha : PA X (e :: es) t) (hdb : (x == ("__debug__" : Str)) = false := by decide)
    (he : starEach (e :: es) X.env = (false, eval e X.env) :: starEach es X.env := by rfl) (hpl : (backTo pos (starEach es X.env)).any (·.1) = false := by rfl) :
    PE X (.Call (.Name x p) (e :: es) [] pos) (tCall sp dvs E0 t) := by
  obtain ⟨f, fd, ds, F, g, kp, b, hd⟩ := c
  exact pe_call F hr hg g kp b hd pass0 ha hdb he hpl
end
/-! ### rules of a block, the written part told -/
section
variable {X : Cx} {K : PySem.W.Frag} {e : Expr} {ta : TE} {f : Str} {pos : Pos}
theorem pe_fldK (hk : X.K = K) (he : PE X e ta) (hb : attributeBase e f X.env (eval e X.env) = eval e X.env) : PE X (.Attribute e f pos) (tFld K ta f) := hk ▸ pe_fld he hb
theorem op_inK (hk : X.K = K) : OpR X (compareOp .In) (rIn K false) := hk ▸ op_in_seq
theorem op_niK (hk : X.K = K) : OpR X (compareOp .NotIn) (rIn K true) := hk ▸ op_notIn_seq
theorem op_eqDK (hk : X.K = K) (hu : X.A.units + 64 < cLine) : OpR X (compareOp .Eq) (rEqD K) := hk ▸ op_eqD hu
theorem op_neDK (hk : X.K = K) (hu : X.A.units + 64 < cLine) : OpR X (compareOp .NotEq) (rNeD K) := hk ▸ op_neD hu
theorem ix_lstK (h : X.K = K) : IxR X (rIxL K) := h ▸ ix_list
theorem ix_tupK (h : X.K = K) : IxR X (rIxT K) := h ▸ ix_tup
theorem pt_truthK (hk : X.K = K) {a : Expr} (ha : PE X a ta) (he : ∀ whole, isTrue a X.env whole = (do let v ← whole; standAt a.pos; holding [v] (truthy v))) : PT X a (fun σ H Q => ta σ H fun x H' => ∃ k, TruV K x H' k ∧ Q k H') := hk ▸ pt_truth ha he
end
/-! ### name = {..: .. for ..}, the name a local -/
section
variable {X : Cx}
theorem sw_trueD {kx vx : Expr} {gs : List Comprehension} {scope : Scope} {pos py : Pos} {y : Str} {l : Nat} {env : Env} (hk : env.scope.kind = .function) (hy : env.scope.names.lookup y = some .local) (hl : (py.line == pos.line) = true)
    (ha : (scope.names.any fun (n, k) => n == y && (k == .local || k == .cell)) = false) : swapsWith (.DictComp kx vx gs scope pos) (some (.Name y py)) l env = pure true := by
  have e1 : env.kindOf y = some .local := hy
  have e2 : env.blockKind = .function := by unfold Env.blockKind; rw [hk]; rfl
  unfold swapsWith
  simp only [e2, e1, ha, Expr.pos, hl] <;> rfl
theorem ps_setDc {i : Nat} {y : Str} {py : Pos} {kx vx tg iter : Expr} {ifs : List Expr} {scope : Scope} {own : List (Str × Nat)} {pos spos : Pos} {wi : TI} {g : TG} {tt : TT} {tk tv : TE} (hc : X.calm = true) (hN : X.N.Nodup) (hy : X.N[i]? = some y) (hyl : X.env.scope.names.lookup y = some .local)
    (hsw : swapsWith (.DictComp kx vx [⟨tg, iter, ifs, 0⟩] scope pos) (some (.Name y py)) spos.line X.env = pure true) (hi : PI X tg iter wi) (ok : BlkOk X.N X.env.scope scope own)
    (hg : ∀ (s : Shared) (H : Hp) (C : Addr) (cl : List (Str × Addr)) (fp : List Addr), PG (X.blk s H scope (compEnvC scope cl C X.env) fp) tg g) (ht : ∀ (s : Shared) (H : Hp) (C : Addr) (cl : List (Str × Addr)) (fp : List Addr), PTs (X.blk s H scope (compEnvC scope cl C X.env) fp) ifs tt)
    (hk : ∀ (s : Shared) (H : Hp) (C : Addr) (cl : List (Str × Addr)) (fp : List Addr), PE (X.blk s H scope (compEnvC scope cl C X.env) fp) kx tk)
    (he : ∀ (s : Shared) (H : Hp) (C : Addr) (cl : List (Str × Addr)) (fp : List Addr), PE (X.blk s H scope (compEnvC scope cl C X.env) fp) vx tv) (hs : ∀ x, foldedSetIterable iter X.env x = pure x := by intro _; rfl) :
    PS X (.Assign [.Name y py] (.DictComp kx vx [⟨tg, iter, ifs, 0⟩] scope pos) spos) (tAsg (tDc wi g tt tk tv (own.map (·.2))) (gName i)) := by
  refine ⟨fun pins s σ H D I h => ?_⟩
  rw [exec_Assign_Name_used _ _ _ _ hsw]
  refine wpAny_bind (wpAny_standAt (wpAny_bind ?_))
  show wpAny _ X.A (do let _ ← comprehension (.DictComp kx vx [⟨tg, iter, ifs, 0⟩] scope pos) scope X.env (firstIterPos [⟨tg, iter, ifs, 0⟩] pos) newDict false (eval iter X.env) (some (assign (.Name y py) X.env))) _ _ s
  have h : tDc wi g tt tk tv (own.map (·.2)) σ H (fun x H1 => gName i x σ H1 D.nx) := h
  refine wpAny_bind (thn (dc_core (Qf := fun _ s' => SP X pins D .next s') hc hN I hi ok hg ht hk he hs h fun L C s' m H' I' q hn f => ?_) fun _ s' hq => wpAny_pure (wpAny_pure hq))
  show wpAny _ _ (assign (.Name y py) X.env (.ref L)) _ _ _
  refine wpAny_assign_Name (store_ok2 (v := V.ref L) I' hN hy (.inl hyl) rfl (fun s2 I2 ⟨a, sb, ha⟩ => ?_) (.inr hyl))
  obtain ⟨f0, f1, f2, f3, f4, f5⟩ := f
  have ne : C ≠ a := ha.elim (fun z => by rw [z]; exact f1) fun z e => f4 y a z e.symm
  exact ⟨m, hn.sameBut sb ne, fun h3 sb3 => ⟨_, H', I2.turned (t' := s2.toks) (fun b o hb e => (sb3.2 b hb).trans e) f0 f1 f3 f4 f5, q⟩⟩
end
end Cs
set_option maxHeartbeats 4000000
namespace Cs
open PySem PySem.Spec PyProof.Rows L2
section
variable {α β γ δ : Type} {W : Wd} {K : PySem.W.Frag} {ta tb tc : TE} {t : Ty α} {u : Ty β} {x x' : α} {y : β} {tt uu : TT} {ar ak : TA} {fs : List SF} {i : Nat} {E : XK} {ts us vs : TS} {D : Ends} {g : TG} {as : α → List (Nat × SF)} {wi : TI}
theorem Ev.xe (h : Ev W ta t x) : Evx W ta t fun y => y = x := h.x rfl
theorem evx_to {P : α → Prop} {P' : β → Prop} (h : Evx W ta t P) (e : ∀ x, P x → ∃ y, P' y ∧ ∀ H v, t.r H v x → u.r H v y) : Evx W ta u P' := fun σ H o Q q => h σ H o Q fun v x H' p g r => by
  obtain ⟨y, py, c⟩ := e x p
  exact q v y H' py g (c _ _ r)
theorem go_setx {P : α → Prop} (h : Evx W ta t P) (k : ∀ x, P x → Go (W.at i (t.is x)) us D) : Go W (tSeq (tAsg ta (gName i)) us) D := fun σ H o => h σ H o _ fun v x H1 p g r => k x p _ _ (g.ok.put r)
theorem go_set1x {P : α → Prop} (h : Evx W ta t P) (k : ∀ x, P x → ∀ σ H, Ok (W.at i (t.is x)) σ H → D.nx σ H) : Go W (tAsg ta (gName i)) D := fun σ H o => h σ H o _ fun v x H1 p g r => k x p _ _ (g.ok.put r)
theorem go_ifx {P : Bool → Prop} (h : Etx W tt P) (h1 : P true → Go W ts D) (h2 : P false → Go W us D) : Go W (tIfS tt ts us) D := fun σ H o => h σ H o _ fun b H1 p g => by
  cases b with
  | true => exact h1 p σ H1 g.ok
  | false => exact h2 p σ H1 g.ok
theorem go_ifrx {P : Bool → Prop} (h : Etx W tt P) (h1 : P true → Go W ts { D with nx := vs D }) (h2 : P false → Go W vs D) : Go W (tSeq (tIfS tt ts tNext) vs) D := go_ifx h h1 h2
/-- an if whose ends meet -/
theorem go_ifj {ι : Type} {P : Bool → Prop} (Wj : ι → Wd) (Pj : ι → Prop) (h : Etx W tt P) (h1 : P true → ∀ nx : L2.St → Hp → Prop, (∀ c, Pj c → ∀ σ H, Ok (Wj c) σ H → nx σ H) → Go W ts { D with nx := nx }) (h2 : P false → ∃ c, Pj c ∧ Wk W (Wj c)) (hk : ∀ c, Pj c → Go (Wj c) vs D) : Go W (tSeq (tIfS tt ts tNext) vs) D :=
  go_ifrx h (fun p => h1 p (vs D) fun c pc σ H o => hk c pc σ H o) fun p => by
    obtain ⟨c, pc, w⟩ := h2 p
    exact go_wk w (hk c pc)
theorem evx_ixL {xs : List α} {P : Int → Prop} {R : α → Prop} {t : Ty α} (h : Ev W ta (tLs K t) xs) (hb : Evx W tb tInt P) (e : ∀ n, P n → ∃ x, R x ∧ atI xs n = some x) : Evx W (tOp (rIxL K) ta tb) t R := fun σ H o Q q =>
  h σ H o _ fun v H1 g1 r1 => hb σ H1 g1.ok _ fun v2 n H2 p2 g2 r2 => by
    obtain ⟨p, vs, ev, s, al⟩ := (tLs K t).mono g2.up r1
    obtain ⟨x, rx, e⟩ := e n p2
    have : ∃ z, atI vs n = some z ∧ t.r (hid W.S H2) z x := by
      unfold atI at e ⊢
      rw [al.length]
      cases c : ixN xs.length n with
      | none => rw [c] at e; cases e
      | some k =>
        rw [c] at e
        exact al.get e
    obtain ⟨z, hz, rz⟩ := this
    exact ⟨p, vs, n, z, ev, r2, (SqL.of (hid_sub _ _ s)), hz, q z x H2 rx (g1.trans g2) rz⟩
/-! ### arguments of several answers -/
def Eax (W : Wd) (ta : TA) {α : Type} (F : α → List SF) (P : α → Prop) : Prop := ∀ σ H, Ok W σ H → ∀ Q : List V → Hp → Prop, (∀ vs c H', P c → Go1 W σ H H' → Fits (hid W.S H') (F c) vs → Q vs H') → ta σ H Q
theorem Ea.xe (h : Ea W ar fs) : Eax W ar (fun _ : Unit => fs) (fun _ => True) := fun σ H o Q q => h σ H o Q fun vs H' g f => q vs () H' trivial g f
theorem eax_consx {P : α → Prop} {F : β → List SF} {R : β → Prop} (ha : Evx W ta t P) (hr : Eax W ar F R) : Eax W (tCons ta ar) (fun c : α × β => t.is c.1 :: F c.2) (fun c => P c.1 ∧ R c.2) := fun σ H o Q q =>
  ha σ H o _ fun v x H1 p g1 r1 => hr σ H1 g1.ok _ fun vs c H2 pc g2 r2 => q (v :: vs) (x, c) H2 ⟨p, pc⟩ (g1.trans g2) ⟨t.mono g2.up r1, r2⟩
theorem eax_cons {F : β → List SF} {R : β → Prop} (ha : Ev W ta t x) (hr : Eax W ar F R) : Eax W (tCons ta ar) (fun c : β => t.is x :: F c) R := fun σ H o Q q =>
  ha σ H o _ fun v H1 g1 r1 => hr σ H1 g1.ok _ fun vs c H2 pc g2 r2 => q (v :: vs) c H2 pc (g1.trans g2) ⟨t.mono g2.up r1, r2⟩
/-- as ok_N, a def with defaults -/
theorem ok_ND {P : Program} {w : World} {mg : Str → Option Value} {base : Heap} {nm qual : Str} {st : Stmt} {f : Addr} {fd : FuncData} {N ps : List Str} {k : Nat} {C : α → List RS} {A : α → List SF} {wt : Ty β} {pre : α → Prop} {post : α → β → Prop} {dvs : List V} {kws : List (Str × V)}
    (F : FunD K nm qual (defArgs st) (defBody st) (defScope st) dvs kws f fd) (S : FnScope N ps (defScope st)) (hl : ∀ x, (A x).length = ps.length)
    (body : ∀ (cdv : Value) (A' : Around) (outer : List Env) (s : Shared) (H0 : Hp) (S : List Addr) (x : α) (Q : VK) (E : XK), Room k (A'.deeper (envOfC qual (defScope st) s.heap.objs.size f cdv)) → pre x → Rt (C x) S H0 wt (post x) Q →
      ∃ t, PSs (cxOf CX0 P w K mg base N qual (defScope st) f cdv A' outer s H0 E).nox (defBody st) t ∧ Go ⟨H0, fps (C x), S, C x, [], (A x).map some ++ List.replicate (N.length - ps.length) none⟩ t { nx := fun _ H' => Q .non H', rt := Q }) :
    FnOk P w K mg base CX0 (k + 1) f fd ps (spN C A wt pre post) := by
  refine F.ok S (fun vs H Q E h => ?_) (fun cdv A' outer s H vs Q E hr h => ?_)
  · obtain ⟨S', x, _, _, _, _, ft, _⟩ := h
    rw [ft.length, hl]
  · obtain ⟨S', x, al, nd, sub, cc, ft, hp, out⟩ := h
    obtain ⟨t, h1, h2⟩ := body cdv A' outer s H S' x Q E hr hp (fun v y H' => out v y H')
    refine ⟨t, h1.nox, h2 _ _ ⟨nd, fun a m => ⟨sub a m, .inl m⟩, cc, sub, al, Bt.refl, ?_, (fun f m => nomatch m), fun i f' q => ?_⟩⟩
    · show (L2.start N vs).length = ((A x).map some ++ List.replicate (N.length - ps.length) none).length
      unfold L2.start
      have e1 := ft.length
      have e2 := hl x
      simp only [List.length_append, List.length_map, List.length_replicate]
      omega
    · have q : ((A x).map some ++ List.replicate (N.length - ps.length) none)[i]? = some (some f') := q
      unfold L2.start
      by_cases l : i < (A x).length
      · rw [List.getElem?_append_left (by simpa using l), List.getElem?_map] at q
        cases c : (A x)[i]? with
        | none => rw [c] at q; cases q
        | some z =>
          rw [c] at q
          obtain rfl : z = f' := Option.some.inj (Option.some.inj q)
          obtain ⟨v, hv, hz⟩ := ft.get c
          exact ⟨v, by rw [List.getElem?_append_left (by simpa [ft.length] using l), List.getElem?_map, hv]; rfl, hz⟩
      · rw [List.getElem?_append_right (by simpa using l)] at q
        have := List.mem_of_getElem? q
        rw [List.mem_replicate] at this
        exact absurd this.2 (by simp)
/-- what the written part has of a def with defaults: it may be called with all or without them -/
def FunDG (K : PySem.W.Frag) (mg : Str → Option Value) (x : Str) (st : Stmt) (ps : List Str) (dvs : List V) : Prop :=
  ∃ (f : Addr) (fd : FuncData) (ds : List Value), FunD K x x (defArgs st) (defBody st) (defScope st) dvs [] f fd ∧ mg x = some (.ref f) ∧ PySem.W.keepIn K (.ref f) = true ∧ Binds K fd ps [] ∧ Binds K fd ps ds ∧ Vals dvs ds
theorem Cal.ofD {P : Program} {w : World} {mg : Str → Option Value} {base : Heap} {x : Str} {st : Stmt} {ps : List Str} {k : Nat} {sp : Sp} {dvs : List V} (F : FunDG K mg x st ps dvs) (h : ∀ {f : Addr} {fd : FuncData}, FunD K x x (defArgs st) (defBody st) (defScope st) dvs [] f fd → FnOk P w K mg base CX0 k f fd ps sp) : Cal P w K mg base k x ps sp ∧ CalD P w K mg base k x ps dvs sp := by
  obtain ⟨f, fd, ds, F, g, kp, b, bd, vd⟩ := F
  exact ⟨⟨f, fd, h F, g, kp, b⟩, ⟨f, fd, ds, h F, g, kp, bd, vd⟩⟩
theorem FunDG.mk {mg : Str → Option Value} {h : Heap} {x : Str} {st : Stmt} {ps : List Str} {dvs : List V} {f T : Addr} {od an dT : Option Addr} {sl slT : Array (Option Value)} {its : Array Value} {oc kV dc pm cd ct cT : Value} {nT : Nat} (n : Nat)
    (hb0 : ∀ (T : Addr) (kV doc pm : Value) (an : Option Addr) (cdv ct : Value) (us its : List Value), us.length = ps.length → its.length = dvs.length →
      ∃ k, bindArgs (PySem.W.fnOf x x (defArgs st) (defBody st) (defScope st) (.ref T) kV doc pm an cdv ct) ⟨us, []⟩ = seqItems? (.ref T) >>= k ∧ k (some its.toArray) = pure (ps.zip (us ++ its.drop dvs.length)))
    (hb1 : ∀ (T : Addr) (kV doc pm : Value) (an : Option Addr) (cdv ct : Value) (us its : List Value), us.length = n → its.length = dvs.length →
      ∃ k, bindArgs (PySem.W.fnOf x x (defArgs st) (defBody st) (defScope st) (.ref T) kV doc pm an cdv ct) ⟨us, []⟩ = seqItems? (.ref T) >>= k ∧ k (some its.toArray) = pure (ps.zip (us ++ its.drop 0)))
    (X : K.In h) (G : h.Ns mainGlobals mg)
    (a : PySem.W.nsIn K mainGlobals x = some (some (.ref f))) (l : K.lookup f = some ⟨oc, od, .func (PySem.W.fnOf x x (defArgs st) (defBody st) (defScope st) (.ref T) kV dc pm an cd ct), sl⟩) (c : PySem.W.codeIn K cd x = true) (k : PySem.W.keepIn K (.ref f) = true)
    (lT : K.lookup T = some ⟨cT, dT, .seq its nT, slT⟩) (hd : dvs ≠ []) (hv : Vals dvs its.toList) (hn : n + dvs.length = ps.length) : FunDG K mg x st ps dvs := by
  have F : FunD K x x (defArgs st) (defBody st) (defScope st) dvs [] f _ := ⟨⟨oc, od, .ref T, kV, dc, pm, an, cd, ct, sl, rfl, l, c, .inr ⟨hd, T, _, its.toList, nT, rfl, lT, rfl, hv⟩, .inl rfl⟩, k⟩
  obtain ⟨d0, v0, B0⟩ := F.binds1 (ps := ps) ps.length dvs.length hd (by omega) hb0
  obtain ⟨d1, v1, B1⟩ := F.binds1 (ps := ps) n 0 hd (by omega) hb1
  rw [List.drop_length] at v0
  cases v0
  exact ⟨f, _, d1, F, PySem.W.mg_of X G a, k, B0, B1, v1⟩
/-! ### new instances -/
def cIns (C dx : Addr) (known : List (Str × SF)) : CF := ⟨fun F o => ∃ fs, o = .ins C dx fs ∧ fs.length ≤ known.length ∧ FldAt F fs known, fun e ⟨fs, h, l, k⟩ => ⟨fs, h, l, fun n f m => by
  obtain ⟨v, h1, h2⟩ := k n f m
  exact ⟨v, h1, f.mono e h2⟩⟩⟩
/-- what `__init__` promises: the new instance has these attributes -/
def spI (C : Addr) (A : α → List SF) (pre : α → Prop) (flds : α → List (Str × SF)) : Sp := fun vs H Q _ => ∃ (S : List Addr) (x : α) (a dx : Addr) (ws : List V), vs = .ref a :: ws ∧ a ∈ S ∧ (∀ b ∈ S, H b ≠ none) ∧ H a = some (.ins C dx []) ∧ Fits (hid S H) (A x) ws ∧ pre x ∧
  ∀ H' fs, Bt [a] H H' → H' a = some (.ins C dx fs) → FldAt (hid S H') fs (flds x) → Q .non H'
theorem ok_I {P : Program} {w : World} {mg : Str → Option Value} {base : Heap} {nm qual : Str} {st : Stmt} {f : Addr} {fd : FuncData} {N ps : List Str} {k : Nat} {C : Addr} {A : α → List SF} {pre : α → Prop} {flds : α → List (Str × SF)} {p0 : Str}
    (F : Fun K nm qual st f fd) (S : FnScope N (p0 :: ps) (defScope st)) (hl : ∀ x, (A x).length = ps.length)
    (body : ∀ (cdv : Value) (A' : Around) (outer : List Env) (s : Shared) (H0 : Hp) (S : List Addr) (x : α) (a dx : Addr) (Q : VK) (E : XK), Room k (A'.deeper (envOfC qual (defScope st) s.heap.objs.size f cdv)) → pre x → a ∈ S →
      ∃ t, PSs (cxOf CX0 P w K mg base N qual (defScope st) f cdv A' outer s H0 E).nox (defBody st) t ∧ ∀ nx : L2.St → Hp → Prop, (∀ known F G σ H, Ok ⟨H0, [a], S, [cell a (cIns C dx known)], F, G⟩ σ H → (∀ p, p ∈ flds x → p ∈ known) → nx σ H) → Go ⟨H0, [a], S, [cell a (cIns C dx [])], [], some (tRf.is a) :: ((A x).map some ++ List.replicate (N.length - (ps.length + 1)) none)⟩ t { nx := nx, rt := Q }) :
    FnOk P w K mg base CX0 (k + 1) f fd (p0 :: ps) (spI C A pre flds) := by
  refine F.ok S (fun vs H Q E h => ?_) (fun cdv A' outer s H vs Q E hr h => ?_)
  · obtain ⟨S', x, a, dx, ws, rfl, _, _, _, ft, _⟩ := h
    show ws.length + 1 = ps.length + 1
    rw [ft.length, hl]
  · obtain ⟨S', x, a, dx, ws, rfl, am, al, ha, ft, hp, out⟩ := h
    obtain ⟨t, h1, h2⟩ := body cdv A' outer s H S' x a dx Q E hr hp am
    have fa : fps [cell a (cIns C dx ([] : List (Str × SF)))] = [a] := rfl
    refine ⟨t, h1, h2 _ (fun known F' G' σ H' o sub => ?_) _ _ ⟨by rw [fa]; simp, fun b m => ?_, fun r m => ?_, fun b m => ?_, al, Bt.refl, ?_, (fun f m => nomatch m), fun i f' q => ?_⟩⟩
    · obtain ⟨ob, hob, fs, rfl, _, hf⟩ := o.at_ (cell a (cIns C dx known)) (List.mem_cons_self ..)
      exact out H' fs o.bt hob fun n f m => hf n f (sub _ m)
    · rw [fa] at m
      rw [List.mem_singleton.mp m]
      exact ⟨am, .inl (List.mem_cons_self ..)⟩
    · rw [List.mem_singleton.mp m]
      exact ⟨_, ha, [], rfl, Nat.le_refl _, fun n f z => nomatch z⟩
    · rw [List.mem_singleton.mp m]
      exact am
    · show (L2.start N (.ref a :: ws)).length = (some (tRf.is a) :: ((A x).map some ++ List.replicate (N.length - (ps.length + 1)) none)).length
      unfold L2.start
      have e1 := ft.length
      have e2 := hl x
      simp only [List.length_append, List.length_map, List.length_replicate, List.length_cons]
      omega
    · have q : (some (tRf.is a) :: ((A x).map some ++ List.replicate (N.length - (ps.length + 1)) none))[i]? = some (some f') := q
      unfold L2.start
      cases i with
      | zero =>
        obtain rfl : tRf.is a = f' := by simpa using q
        exact ⟨.ref a, rfl, rfl⟩
      | succ i =>
        have q : ((A x).map some ++ List.replicate (N.length - (ps.length + 1)) none)[i]? = some (some f') := by simpa using q
        rw [List.map_cons, List.cons_append, List.getElem?_cons_succ]
        by_cases l : i < (A x).length
        · rw [List.getElem?_append_left (by simpa using l), List.getElem?_map] at q
          cases c : (A x)[i]? with
          | none => rw [c] at q; cases q
          | some z =>
            rw [c] at q
            obtain rfl : z = f' := Option.some.inj (Option.some.inj q)
            obtain ⟨v, hv, hz⟩ := ft.get c
            exact ⟨v, by rw [List.getElem?_append_left (by simpa [ft.length] using l), List.getElem?_map, hv]; rfl, hz⟩
        · rw [List.getElem?_append_right (by simpa using l)] at q
          have := List.mem_of_getElem? q
          rw [List.mem_replicate] at this
          exact absurd this.2 (by simp)
/-- self.n = e -/
theorem fld_write {C dx a : Addr} {n : Str} {known : List (Str × SF)} {R : List RS} {s : Nat} {nx : L2.St → Hp → Prop} (hs : W.G[s]? = some (some (tRf.is a))) (hL : W.L = cell a (cIns C dx known) :: R) (h : Ev W ta t x) (cl : Cls K C) (na : NoAttr K C n) (hn : (known.map (·.1)).contains n = false) (hl : known.length < 900)
    (k : ∀ σ H, Ok { W with L := cell a (cIns C dx ((n, t.is x) :: known)) :: R } σ H → nx σ H) (hD : D.nx = nx) : Go W (sFld K (tVar s) ta n) D := fun σ H o => h σ H o _ fun v H1 g r => by
  obtain ⟨w, h1, rfl⟩ := g.ok.slots s _ hs
  obtain ⟨ob, hob, fs, rfl, hlen, hf⟩ := g.ok.at_ (cell a (cIns C dx known)) (by rw [hL]; exact List.mem_cons_self ..)
  refine ⟨.ref a, h1, a, C, dx, fs, rfl, hob, cl, na, by omega, ?_⟩
  rw [hD]
  refine k _ _ (g.ok.write (ψ := cIns C dx ((n, t.is x) :: known)) hL ⟨_, rfl, Nat.le_trans (length_putF n v fs) (by rw [List.length_cons]; omega), fun m f z => ?_⟩).ok
  rw [lookup_putF]
  rcases List.mem_cons.mp z with z | z
  · obtain ⟨rfl, rfl⟩ := Prod.mk.inj z
    exact ⟨v, if_pos rfl, r⟩
  · have ne : m ≠ n := fun e => by
      have : (known.map (·.1)).contains n = true := by
        rw [List.contains_eq_mem, decide_eq_true_eq]
        exact List.mem_map.mpr ⟨(m, f), z, e⟩
      rw [hn] at this; cases this
    obtain ⟨w, q1, q2⟩ := hf m f z
    exact ⟨w, by rw [if_neg ne]; exact q1, q2⟩
theorem go_fldS {C dx a : Addr} {n : Str} {known : List (Str × SF)} {R : List RS} {s : Nat} (hs : W.G[s]? = some (some (tRf.is a))) (hL : W.L = cell a (cIns C dx known) :: R) (h : Ev W ta t x) (cl : Cls K C) (na : NoAttr K C n) (k : Go { W with L := cell a (cIns C dx ((n, t.is x) :: known)) :: R } us D) (hn : (known.map (·.1)).contains n = false := by rfl) (hl : known.length < 900 := by simp)
    : Go W (tSeq (sFld K (tVar s) ta n) us) D := fun σ H o => fld_write hs hL h cl na hn hl (fun σ' H' o' => k σ' H' o') rfl σ H o
theorem go_fldS1 {C dx a : Addr} {n : Str} {known : List (Str × SF)} {R : List RS} {s : Nat} (hs : W.G[s]? = some (some (tRf.is a))) (hL : W.L = cell a (cIns C dx known) :: R) (h : Ev W ta t x) (cl : Cls K C) (na : NoAttr K C n) (k : ∀ σ H, Ok { W with L := cell a (cIns C dx ((n, t.is x) :: known)) :: R } σ H → D.nx σ H) (hn : (known.map (·.1)).contains n = false := by rfl) (hl : known.length < 900 := by simp)
    : Go W (sFld K (tVar s) ta n) D := fld_write hs hL h cl na hn hl k rfl
/-- C(e, .., k = v, ..) -/
theorem evx_makeK {n m : Nat} {C : Addr} {A : γ → List SF} {pre : γ → Prop} {flds : γ → List (Str × SF)} {gV : List V → List V → List V} {F1 : α → List SF} {F2 : β → List SF} {P1 : α → Prop} {P2 : β → Prop} (z : α → β → γ)
    (ha : Eax W ar F1 P1) (hk : Eax W ak F2 P2) (hn : ∀ c, (F1 c).length = n) (hm : ∀ c, (F2 c).length = m) (hg : ∀ H v c d us ws, Fits H (F1 c) us → Fits H (F2 d) ws → ∃ os, gV (v :: us) ws = v :: os ∧ Fits H (A (z c d)) os) (hp : ∀ c d, P1 c → P2 d → pre (z c d)) :
    Evx W (tMakeK C n m (spI C A pre flds) gV E ar ak) (tOb C flds) (fun y => ∃ c d, P1 c ∧ P2 d ∧ y = z c d) := fun σ H o Q q =>
  ha σ H o _ fun us c H1 pc g1 f1 => hk σ H1 g1.ok _ fun ws d H2 pd g2 f2 => by
    refine ⟨by rw [f1.length, hn], by rw [f2.length, hm], fun a dx na nd ne => ?_⟩
    obtain ⟨os, e, ft⟩ := hg _ (.ref a) c d us ws (f1.mono g2.up) f2
    rw [e]
    have nd' : (upd H2 dx (.own a)) a = none := by rw [upd_ne (Ne.symm ne)]; exact na
    have s1 : Same H2 (upd H2 dx (.own a)) := Same.new nd
    have s2 : Same H2 (upd (upd H2 dx (.own a)) a (.ins C dx [])) := s1.trans (Same.new nd')
    have off : a ∉ W.S := g2.ok.off na
    have h3 : hid (a :: W.S) (upd (upd H2 dx (.own a)) a (.ins C dx [])) = hid (a :: W.S) (upd H2 dx (.own a)) := hid_upd (List.mem_cons_self ..)
    have up1 : Same (hid W.S H2) (hid (a :: W.S) (upd (upd H2 dx (.own a)) a (.ins C dx []))) := by
      rw [h3]
      exact Bt.hid (M := []) (N := [a]) (Bt.of s1) (fun b m => nomatch m) (fun b m => .inr (by rw [List.mem_singleton.mp m]; exact na))
    refine ⟨a :: W.S, z c d, a, dx, os, rfl, List.mem_cons_self .., fun b m => ?_, upd_same, ft.mono up1, hp c d pc pd, fun H' fs bt hf fl => ?_⟩
    · rcases List.mem_cons.mp m with m | m
      · rw [m, upd_same]; simp
      · intro z
        have := g2.ok.al b m
        cases q : H2 b with
        | none => exact this q
        | some ob => rw [s2 b ob q] at z; cases z
    · refine ⟨rfl, ?_⟩
      have e2 : Same H2 H' := fun b ob q => bt b ob (fun z => by rw [List.mem_singleton.mp z, na] at q; cases q) (s2 b ob q)
      refine q _ _ H' ⟨c, d, pc, pd, rfl⟩ ((g1.trans g2).trans (g2.ok.go e2)) ⟨a, dx, fs, rfl, by rw [hid_of off]; exact hf, fun nm f mm => ?_⟩
      obtain ⟨v, q1, q2⟩ := fl nm f mm
      exact ⟨v, q1, f.mono (hid_less fun b z => List.mem_cons_of_mem _ z) q2⟩
/-! ### lists that grow, of several answers -/
theorem go_ms (k : (∀ a, a ∈ W.M → a ∈ W.S) → Go W ts D) : Go W ts D := fun σ H o => k o.ms σ H o
theorem go_newN {xs : List α} (h : El W ar t xs) (hl : xs.length ≤ sizeLine := by decide) (k : ∀ p, p ∉ W.S → Go ⟨W.H0, W.M, p :: W.S, cell p (cLs t xs) :: W.L, W.F, W.G.set i (some (tRf.is p))⟩ us D) : Go W (tSeq (tAsg (tLst ar) (gName i)) us) D := fun σ H o =>
  h σ H o _ fun vs H1 g1 r1 => ⟨by rw [r1.length]; exact hl, fun p np => k p (g1.ok.off np) _ _ (Ok.put (i := i) (f := tRf.is p) (g1.ok.cell (ψ := cLs t xs) np ⟨vs, rfl, r1⟩).1 rfl)⟩
theorem go_appx {p : Addr} {xs : List α} {R : List RS} {P : α → Prop} (hp : W.G[i]? = some (some (tRf.is p))) (hL : W.L.Perm (cell p (cLs t xs) :: R)) (ha : Evx W ta t P) (hl : xs.length < sizeLine) (k : ∀ x, P x → Go { W with L := cell p (cLs t (xs ++ [x])) :: R } us D) :
    Go W (tSeq (tDrop (tBM K "list" rAppend (tVar i) (tCons ta tNil))) us) D := fun σ H o => by
  obtain ⟨v, h1, h2⟩ := o.slots i _ hp
  obtain rfl : v = .ref p := h2
  have mem : cell p (cLs t xs) ∈ W.L := hL.mem_iff.mpr (List.mem_cons_self ..)
  obtain ⟨ob, hob, vs, rfl, _⟩ := o.at_ _ mem
  refine ⟨.ref p, h1, .inl ⟨rfl, vs, SqL.of hob⟩, ?_⟩
  refine ha σ H o _ fun y x H1 px g1 ry => ?_
  obtain ⟨ob, hob, ws, rfl, al⟩ := g1.ok.at_ _ mem
  exact ⟨p, ws, y, rfl, rfl, hob, by rw [al.length]; exact hl, k x px _ _ ((g1.ok.perm hL).write (ψ := cLs t (xs ++ [x])) rfl ⟨_, rfl, al.app (ws := [y]) (ys := [x]) ⟨ry, trivial⟩⟩).ok⟩
theorem go_app1x {p : Addr} {xs : List α} {R : List RS} {P : α → Prop} (hp : W.G[i]? = some (some (tRf.is p))) (hL : W.L.Perm (cell p (cLs t xs) :: R)) (ha : Evx W ta t P) (hl : xs.length < sizeLine) (k : ∀ x, P x → ∀ σ H, Ok { W with L := cell p (cLs t (xs ++ [x])) :: R } σ H → D.nx σ H) :
    Go W (tDrop (tBM K "list" rAppend (tVar i) (tCons ta tNil))) D := go_appx (us := fun D σ H => D.nx σ H) hp hL ha hl k
/-! ### walks of several answers -/
def Ivx {α : Type} (W : Wd) (wi : TI) (t : Ty α) (X : List α → Prop) : Prop := ∀ σ H, Ok W σ H → ∀ R : It → Hp → Prop, (∀ xs J H1 f, X xs → Go1 W σ H H1 → f.p (hid W.S H1) → Wks J f t xs → R J H1) → wi σ H R
theorem ivx_range1 {P : Int → Prop} (h : Evx W ta tInt P) (h1 : ∀ n, P n → -(2 ^ 62) ≤ n ∧ n < 2 ^ 62) : Ivx W (iRng1 (tCons ta tNil)) tInt (fun xs => ∃ n : Int, P n ∧ xs = (List.range n.toNat).map fun (i : Nat) => (i : Int)) := fun σ H o R q =>
  evx_range1 (R' := fun _ => True) o h h1 fun n J H1 f p g z wk => q _ J H1 f ⟨n, p, rfl⟩ g z wk
theorem go_forx {ι : Type} {X : List α → Prop} (h : Ivx W wi t X) (tg : Tgt g t as) (J : Nat → ι → List RS × List (Option SF)) (Pv : Nat → ι → Prop) (c0 : ι) (p0 : Pv 0 c0) (w0 : Wk W { W with L := (J 0 c0).1, G := (J 0 c0).2 })
    (hs : ∀ xs k c x (f : FF), X xs → xs[k]? = some x → Pv k c → Go (Wd.puts ⟨W.H0, W.M, W.S, (J k c).1, f :: W.F, (J k c).2⟩ (as x)) ts
      { D with nx := fun σ H => ∃ c', Pv (k + 1) c' ∧ Ok ⟨W.H0, W.M, W.S, (J (k + 1) c').1, f :: W.F, (J (k + 1) c').2⟩ σ H, ct := fun σ H => ∃ c', Pv (k + 1) c' ∧ Ok ⟨W.H0, W.M, W.S, (J (k + 1) c').1, f :: W.F, (J (k + 1) c').2⟩ σ H, bk := D.nx })
    (hd : ∀ xs c, X xs → Pv xs.length c → ∀ σ H, Ok { W with L := (J xs.length c).1, G := (J xs.length c).2 } σ H → D.nx σ H) :
    Go W (tFor wi g ts) D := fun σ H o => h σ H o _ fun xs Ji H1 f px g1 fp wk =>
  for_core wk tg (fun k c => ⟨W.H0, W.M, W.S, (J k c).1, f :: W.F, (J k c).2⟩) Pv (fun _ _ => rfl) ⟨c0, p0, Ok.know (w0 _ _ g1.ok) fp⟩ (fun k c x hx pc => hs xs k c x f px hx pc) fun c pc σ' H' o' => hd xs c px pc σ' H'
    ⟨o'.nod, o'.own, o'.at_, o'.ms, o'.al, o'.bt, o'.len, fun q m => o'.facts q (List.mem_cons_of_mem _ m), o'.slots⟩
/-! ### lists or tuples -/
def tLT (K : PySem.W.Frag) {α : Type} (t : Ty α) : Ty (List α) := ⟨fun H v xs => ∃ p vs, v = .ref p ∧ (SqL K H p vs ∨ SqT K H p vs) ∧ All2 (t.r H) vs xs, fun e ⟨p, vs, h, g, h1⟩ => ⟨p, vs, h, g.imp (fun z => e.seq z) (fun z => sqT_mono e z), All2.mono (fun _ _ => t.mono e) h1⟩⟩
theorem ev_LT {xs : List α} (h : Ev W ta (tLs K t) xs) : Ev W ta (tLT K t) xs := ev_to h fun _ _ ⟨p, vs, e, s, al⟩ => ⟨p, vs, e, .inl (SqL.of s), al⟩
theorem lt_hid {H : Hp} {S : List Addr} {p : Addr} {vs : List V} (h : SqL K (hid S H) p vs ∨ SqT K (hid S H) p vs) : SqL K H p vs ∨ SqT K H p vs := h.imp (fun z => hid_sub.seq z) (fun z => sqT_mono hid_sub z)
theorem ev_inT {z : Str} {xs : List Str} (ha : Ev W ta tSt z) (hb : Ev W tb (tLT K tSt) xs) : Ev W (tOp (rIn K false) ta tb) tBl (decide (z ∈ xs)) := fun σ H o Q q =>
  ha σ H o _ fun v H1 g1 r1 => hb σ H1 g1.ok _ fun v2 H2 g2 ⟨p, vs, e, s, al⟩ => ⟨p, vs, e, lt_hid s, by rw [show v = .str z from r1]; rfl, flat_str al, q _ H2 (g1.trans g2) (by rw [show v = .str z from r1]; show V.bl (inV (.str z) vs) = _; rw [inV_str al])⟩
theorem ev_niT {z : Str} {xs : List Str} (ha : Ev W ta tSt z) (hb : Ev W tb (tLT K tSt) xs) : Ev W (tOp (rIn K true) ta tb) tBl (!decide (z ∈ xs)) := fun σ H o Q q =>
  ha σ H o _ fun v H1 g1 r1 => hb σ H1 g1.ok _ fun v2 H2 g2 ⟨p, vs, e, s, al⟩ => ⟨p, vs, e, lt_hid s, by rw [show v = .str z from r1]; rfl, flat_str al, q _ H2 (g1.trans g2) (by rw [show v = .str z from r1]; show V.bl (!inV (.str z) vs) = _; rw [inV_str al])⟩
theorem el_starT {xs ys : List α} (ha : Ev W ta (tLT K t) xs) (hr : El W ar t ys) : El W (StX.tStar K ta ar) t (xs ++ ys) := fun σ H o Q q =>
  ha σ H o _ fun v H1 g1 ⟨p, vs, e, s, al⟩ => ⟨p, vs, e, (lt_hid s).symm, hr σ H1 g1.ok _ fun ws H2 g2 r2 => q _ _ (g1.trans g2) ((All2.mono (fun _ _ => t.mono g2.up) al).app r2)⟩
/-! ### calls that leave arguments out; comparisons of several answers -/
theorem Fits.append {H : Hp} : ∀ {fs gs : List SF} {us ws : List V}, Fits H fs us → Fits H gs ws → Fits H (fs ++ gs) (us ++ ws)
  | [], _, [], _, _, h => h
  | _ :: _, _, _ :: _, _, ⟨a, b⟩, h => ⟨a, Fits.append b h⟩
  | [], _, _ :: _, _, h, _ => h.elim
  | _ :: _, _, [], _, h, _ => h.elim
theorem evx_callD {C : γ → List RS} {A : γ → List SF} {w : Ty β} {pre : γ → Prop} {post : γ → β → Prop} {z : γ} {ds : List SF} {dvs : List V} (h : Ea W ar fs) (hd : ∀ H, Fits H ds dvs) (e : A z = fs ++ ds) (hp : pre z) (hC : (C z).Sublist W.L := by first | exact List.nil_sublist _ | exact List.Sublist.refl _ | exact List.singleton_sublist.mpr (by simp) | simp) :
    Evx W (tCall (spN C A w pre post) dvs E ar) w (post z) := fun σ H o Q q => h σ H o _ fun vs H1 g1 r1 => by
  have sub : ∀ a, a ∈ fps (C z) → a ∈ W.S := fun a m => by
    obtain ⟨r, m1, m2⟩ := of_fps m
    exact (g1.ok.own a (mem_fps (hC.subset m1) m2)).1
  refine ⟨W.S, z, g1.ok.al, ?_, sub, fun r m => g1.ok.at_ r (hC.subset m), by rw [e]; exact Fits.append r1 (hd _), hp, fun v y H2 py b al c r => ?_⟩
  · exact (fps_sub hC).nodup g1.ok.nod
  · exact q v y H2 py (g1.trans (g1.ok.after (fun r m => hC.subset m) b al c)) r
theorem evx_cat {xs : List α} {P : List α → Prop} (ha : Ev W ta (tLs K t) xs) (hb : Evx W tb (tLs K t) P) (hl : ∀ ys, P ys → xs.length + ys.length ≤ sizeLine) : Evx W (tOp rCat ta tb) (tLs K t) (fun z => ∃ ys, P ys ∧ z = xs ++ ys) := fun σ H o Q q =>
  ha σ H o _ fun v H1 g1 r1 => hb σ H1 g1.ok _ fun v2 ys H2 py g2 ⟨p2, vs2, e2, s2, al2⟩ => by
    obtain ⟨p1, vs1, e1, s1, al1⟩ := (tLs K t).mono g2.up r1
    exact ⟨p1, p2, vs1, vs2, e1, e2, hid_sub _ _ s1, hid_sub _ _ s2, by rw [al1.length, al2.length]; exact hl ys py, fun p np => q _ _ _ ⟨ys, py, rfl⟩ ((g1.trans g2).trans (g2.ok.new np))
      ⟨p, vs1 ++ vs2, rfl, (by rw [hid_of (g2.ok.off np)]; exact upd_same), All2.mono (fun _ _ => t.mono (g2.ok.new np).up) (al1.app al2)⟩⟩
theorem etx_of {P : Bool → Prop} (h : Evx W ta tBl P) : Etx W (tTest ta) P := fun σ H o Q q => h σ H o _ fun v b H1 p g1 r1 => ⟨b, r1, q b H1 p g1⟩
theorem evx_neD [DecidableEq α] {P : α → Prop} (e : Eqt K t) (ha : Evx W ta t P) (hb : Ev W tb t x') (l1 : ∀ x, P x → (e.d x).canLay0 = true) (l2 : (e.d x').canLay0 = true) (hn : e.n ≤ 64 := by decide) : Evx W (tOp (rNeD K) ta tb) tBl (fun b => ∃ x, P x ∧ b = !decide (x = x')) := fun σ H o Q q =>
  ha σ H o _ fun v x H1 px g1 r1 => hb σ H1 g1.ok _ fun v2 H2 g2 r2 => ⟨e.d x, e.d x', dp_mono hid_sub (e.dp (t.mono g2.up r1)), dp_mono hid_sub (e.dp r2), e.shape hn (l1 x px), e.shape hn l2, by rw [e.dec]; exact q _ _ H2 ⟨x, px, rfl⟩ (g1.trans g2) rfl⟩
end
end Cs
namespace Cs
open PySem PySem.Spec PyProof.Rows L2
theorem lay_st {K : PySem.W.Frag} {x : Str} (h : PyData.strOk x = true) : ((eqSt (K := K)).d x).canLay0 = true := by
  show (PyData.str x).canLay0 = true
  simp only [PyData.canLay0]
  exact h
/-- what a law is asked, and what it answers -/
abbrev spLawT (K : PySem.W.Frag) : Sp := spP (fun ns : List Int => [(tSc K).is ns]) tBl (fun _ => True) (fun _ => true)
theorem spL_in {K : PySem.W.Frag} {H : Hp} {a : Addr} {ns : List Int} {Q : VK} {E : XK} (hS : SqL K H a (ns.map V.int)) (q : ∀ H', Q (.bl true) H') : spLawT K [.ref a] H Q E :=
  ⟨[], ns, (fun a m => nomatch m), List.nodup_nil, (fun a m => by cases m), (fun r m => by cases m), ⟨⟨a, rfl, (show Same H (hid [] H) from fun b o h => by rw [hid_of List.not_mem_nil]; exact h).seq hS⟩, trivial⟩, trivial, fun v y H' py _ _ _ r => by
    rw [show v = .bl y from r, show y = true from py]
    exact q H'⟩
theorem lt8 {m : Int} (h : m.natAbs < 65536) : m.natAbs < 2 ^ 8000 := Nat.lt_of_lt_of_le h (Nat.pow_le_pow_right (n := 2) (i := 16) (by decide) (by decide))
end Cs
namespace Cs
open PySem PySem.Spec PyProof.Rows L2
/-! ### keywords are bound -/
theorem s_pb {α β : Type} (a : α) (f : α → Sem β) : (pure a >>= f) = f a := rfl
theorem forIn_all {α σ : Type} {body : α → σ → Sem (ForInStep σ)} (st : List α → σ) : ∀ (l pre : List α), (∀ p x q, pre ++ l = p ++ x :: q → body x (st p) = pure (.yield (st (p ++ [x])))) → forIn l (st pre) body = pure (st (pre ++ l))
  | [], pre, _ => by rw [List.append_nil]; rfl
  | x :: l, pre, h => by
    rw [List.forIn_cons, h pre x l rfl, s_pb]
    show forIn l (st (pre ++ [x])) body = _
    rw [forIn_all st l (pre ++ [x]) fun p y q e => h p y q (by rw [← e]; simp)]
    simp
theorem forIn_alls {α σ : Type} {body : α → σ → Sem (ForInStep σ)} (st : List α → σ) (l : List α) {s : σ} (e : st [] = s) (h : ∀ p x q, l = p ++ x :: q → body x (st p) = pure (.yield (st (p ++ [x])))) : forIn l s body = pure (st l) := by
  subst e
  have := forIn_all st l [] (body := body) (by simpa using h)
  simpa using this
theorem filterMap_eq {α β : Type} {f g : α → Option β} : ∀ {l : List α}, (∀ x ∈ l, f x = g x) → l.filterMap f = l.filterMap g
  | [], _ => rfl
  | x :: l, h => by rw [List.filterMap_cons, List.filterMap_cons, h x (List.mem_cons_self ..), filterMap_eq fun y m => h y (List.mem_cons_of_mem _ m)]
theorem forIn_id {α σ : Type} {body : α → σ → Sem (ForInStep σ)} {s : σ} {l : List α} (h : ∀ x ∈ l, body x s = pure (.yield s)) : forIn l s body = pure s := forIn_all (fun _ => s) l [] fun p x q e => h x (by rw [List.nil_append] at e; rw [e]; simp)
theorem zip_lookup : ∀ {ns : List Str} {us : List Value} {n : Str}, ns.length = us.length → n ∈ ns → ((ns.zip us).lookup n).isSome = true
  | [], _, _, _, h => by cases h
  | m :: ns, [], _, e, _ => by cases e
  | m :: ns, u :: us, n, e, h => by
    rw [List.zip_cons_cons, List.lookup_cons]
    by_cases q : n = m
    · subst q; simp
    · have : (n == m) = false := by simpa using q
      rw [this]
      rcases List.mem_cons.mp h with h | h
      · exact absurd h q
      · exact zip_lookup (by simpa using e) h
theorem zip_lookup0 : ∀ {ns : List Str} {us : List Value} {n : Str}, n ∉ ns → (ns.zip us).lookup n = none
  | [], _, _, _ => by simp
  | m :: ns, [], _, _ => by simp
  | m :: ns, u :: us, n, h => by
    rw [List.zip_cons_cons, List.lookup_cons]
    have : (n == m) = false := by simpa using (fun q : n = m => h (q ▸ List.mem_cons_self ..))
    rw [this]
    exact zip_lookup0 fun z => h (List.mem_cons_of_mem _ z)
theorem zip_binds : ∀ {ns : List Str} {us : List Value}, ns.length = us.length → ns.Nodup → (ns.filterMap fun n => ((ns.zip us).lookup n).map fun v => (n, v)) = ns.zip us
  | [], [], _, _ => rfl
  | [], _ :: _, e, _ => by cases e
  | _ :: _, [], e, _ => by cases e
  | m :: ns, u :: us, e, nd => by
    rw [List.nodup_cons] at nd
    rw [List.zip_cons_cons, List.filterMap_cons, List.lookup_cons]
    simp only [beq_self_eq_true]
    show (m, u) :: _ = _
    congr 1
    refine Eq.trans (filterMap_eq fun n hn => ?_) (zip_binds (by simpa using e) nd.2)
    rw [List.lookup_cons]
    have : (n == m) = false := by simpa using (fun q : n = m => nd.1 (q ▸ hn))
    rw [this]
theorem bind_kw {fd : FuncData} {N Kn : List Str} {us ws : List Value} (h0 : fd.params.posonlyargs = []) (h1 : fd.params.args.map (·.arg) = N) (h2 : fd.params.kwonlyargs.map (·.arg) = Kn) (h3 : fd.params.vararg = none) (h4 : fd.params.kwarg = none) (h5 : fd.defaults = .none) (nd : (N ++ Kn).Nodup) (l1 : us.length = N.length) (l2 : ws.length = Kn.length) :
    bindArgs fd ⟨us, Kn.zip ws⟩ = pure ((N ++ Kn).zip (us ++ ws)) := by
  have ez : N.zip us ++ Kn.zip ws = (N ++ Kn).zip (us ++ ws) := (List.zip_append l1.symm).symm
  have lz : (N ++ Kn).length = (us ++ ws).length := by simp [l1, l2]
  have ndd := List.nodup_append.mp nd
  unfold bindArgs
  simp only [h0, h1, h2, h3, h4, h5, List.map_nil, List.nil_append]
  rw [forIn_alls (fun pre => (N.zip us ++ pre, ([] : List (Str × Value)))) (Kn.zip ws) (by simp) ?_]
  · rw [s_pb, show seqItems? Value.none = pure none from rfl, s_pb, if_neg (by simp [l1])]
    simp only [ez]
    rw [if_neg ?_]
    · have ed : (List.drop ((((none : Option (Array Value)).getD #[]).toList).length - N.length) (((none : Option (Array Value)).getD #[]).toList)) = [] := by simp
      rw [ed, List.zip_nil_right]
      rw [show (forIn ([] : List (Str × Value)) ((N ++ Kn).zip (us ++ ws)) fun x s => if (List.lookup x.fst s).isNone = true then (pure (ForInStep.yield (s ++ [(x.fst, x.snd)])) : Sem _) else pure (ForInStep.yield s)) = pure ((N ++ Kn).zip (us ++ ws)) from rfl, s_pb]
      rw [forIn_id (l := Kn) (fun n hn => ?_), s_pb, if_neg (by simp)]
      · show pure _ = _
        congr 1
        exact zip_binds lz nd
      · rw [if_neg (by
          have := zip_lookup lz (List.mem_append_right N hn)
          simp only [Option.isNone_iff_eq_none]
          intro z
          rw [z] at this
          cases this)]
    · have : (List.filter (fun n => (List.lookup n ((N ++ Kn).zip (us ++ ws))).isNone) (List.take (N.length - (List.drop ((((none : Option (Array Value)).getD #[]).toList).length - N.length) (((none : Option (Array Value)).getD #[]).toList)).length) N)) = [] := List.filter_eq_nil_iff.mpr fun n hn => by
        have := zip_lookup lz (List.mem_append_left Kn (List.mem_of_mem_take hn))
        simp only [Option.isNone_iff_eq_none]
        intro z
        rw [z] at this
        cases this
      rw [this]
      simp
  · intro p x q e
    have ek : Kn = p.map (·.1) ++ x.1 :: q.map (·.1) := by
      have := congrArg (List.map (·.1)) e
      rw [List.map_append, List.map_cons] at this
      rw [← this, List.map_fst_zip (by omega)]
    have hx : x.1 ∈ Kn := by rw [ek]; simp
    have h1 : x.1 ∉ N := fun z => ndd.2.2 _ z _ hx rfl
    have h2 : x.1 ∉ p.map (·.1) := fun z => by
      have := ndd.2.1
      rw [ek, List.nodup_append] at this
      exact this.2.2 _ z _ (List.mem_cons_self ..) rfl
    have h3 : List.lookup x.1 (N.zip us ++ p) = none := by
      rw [List.lookup_append, zip_lookup0 h1]
      simp only [Option.none_or]
      rw [List.lookup_eq_none_iff]
      intro y my
      simp only [bne_iff_ne, ne_eq, beq_eq_false_iff_ne]
      exact fun z => h2 (List.mem_map.mpr ⟨y, my, z.symm⟩)
    rw [if_pos (by simp [hx]), if_neg (by simp [h3])]
    simp
end Cs
set_option maxHeartbeats 4000000
namespace Cs
open PySem PySem.Spec PyProof.Rows L2
/-! ### several clauses, with and without names -/
/-- the ends of a named clause's suite: its name goes -/
def goneE (D : Ends) (i : Nat) : Ends := ⟨fun σ H => D.nx (σ.set i none) H, D.rt, fun σ H => D.bk (σ.set i none) H, fun σ H => D.ct (σ.set i none) H⟩
/-- a clause: its class, the slot of its name (if it has one), its suite -/
structure Cla where
  c : Value
  i : Option Nat
  ts : Addr → Value → Option Addr → TS
def Cla.go (q : Cla) (D : Ends) (cls : Value) (d : Option Addr) (a : Addr) (σ : L2.St) (H : Hp) : Prop := match q.i with
  | none => q.ts a cls d D σ H
  | some i => q.ts a cls d (goneE D i) (σ.set i (some (.ref a))) H
/-- what the clauses wish, one behind the other -/
def wCla (K : PySem.W.Frag) (Wout : WX) (D : Ends) : List Cla → WX
  | [] => Wout
  | q :: r => fun cls d σ H => ∃ hit, PySem.W.exmOne K cls q.c = some hit ∧ (hit = true → ∀ a, H a = none → q.go D cls d a σ H) ∧ (hit = false → wCla K Wout D r cls d σ H)
abbrev SuiteOk (X : Cx) (body : List Stmt) (ts : Addr → Value → Option Addr → TS) : Prop :=
  ∀ (a : Addr) (ob : Obj) (cls : Value) (d : Option Addr) (ps : List (Addr × Obj)), Zc cls d ob → (∃ fs, ob.data = .fields fs) → PSs (X.suite a ((a, ob) :: ps)) body (ts a cls d)
inductive ClaOk (X : Cx) : List ExceptHandler → List Cla → Prop
  | nil : ClaOk X [] []
  | plain {x c ts st suite p1 p2 hds l} (nm : Names X x c) (su : SuiteOk X (st :: suite) ts) (r : ClaOk X hds l) : ClaOk X (.ExceptHandler (some (.Name x p1)) none (st :: suite) p2 :: hds) (⟨c, none, ts⟩ :: l)
  | named {x n i c ts st suite p1 p2 hds l} (nm : Names X x c) (hi : X.N[i]? = some n) (hl : X.env.kindOf n = some .local) (su : SuiteOk X (st :: suite) ts) (r : ClaOk X hds l) : ClaOk X (.ExceptHandler (some (.Name x p1)) (some n) (st :: suite) p2 :: hds) (⟨c, some i, ts⟩ :: l)
section
variable {X : Cx} {body : List Stmt} {h0 : ExceptHandler} {hds : List ExceptHandler} {l : List Cla} {pos : Pos} {tb : WX → TS} {Wout : WX}
/-- what stands when an exception has been caught: g is the heap, J the state without it -/
structure Caught (X : Cx) (pins : List (Addr × Obj)) (σ : L2.St) (H : Hp) (sI s1 : Shared) (B : Heap) (a : Addr) (cls : Value) (d : Option Addr) (g : Heap) : Prop where
  J : Inv X pins σ H sI
  nb : ∀ b o, sI.heap.get? b = some o → b ∉ frs X.stack → B.get? b = some o
  up : sI.heap.UpToSlots g
  os : s1.os = sI.os
  ag : AllBare s1.gens
  na : H a = none
  fl : HandSPX.FlyingZ B (X.env :: X.outer) a (Zc cls d) g
theorem Caught.inv {pins : List (Addr × Obj)} {σ : L2.St} {H : Hp} {sI s1 : Shared} {B : Heap} {a : Addr} {cls : Value} {d : Option Addr} {g : Heap} (k : Caught X pins σ H sI s1 B a cls d g) : Inv X pins σ H { s1 with heap := g } :=
  k.J.landed k.nb k.fl.1 k.up k.os k.ag
theorem Caught.off {pins : List (Addr × Obj)} {σ : L2.St} {H : Hp} {sI s1 : Shared} {B : Heap} {a : Addr} {cls : Value} {d : Option Addr} {g : Heap} (k : Caught X pins σ H sI s1 B a cls d g) : a ∉ frs (X.env :: X.outer) := fun hm => by
  obtain ⟨ob, fs, he, _, hd⟩ := k.fl.there
  obtain ⟨_, ob', he', hn⟩ := k.fl.2.2.1.mem hm
  rw [he] at he'
  cases he'
  exact hn _ hd
theorem Caught.in_ {pins : List (Addr × Obj)} {σ : L2.St} {H : Hp} {sI s1 : Shared} {B : Heap} {a : Addr} {cls : Value} {d : Option Addr} {g : Heap} (hf : X.env.frame = some X.env.locals) (k : Caught X pins σ H sI s1 B a cls d g) :
    ∃ ob, g.get? a = some ob ∧ Zc cls d ob ∧ (∃ fs, ob.data = .fields fs) ∧ Inv (X.suite a ((a, ob) :: (X.pn ++ pins))) [] σ H { s1 with heap := g } := by
  obtain ⟨ob, fs, he, hz, hd⟩ := k.fl.there
  refine ⟨ob, he, hz, ⟨_, hd⟩, k.inv.suite he hd k.na (fun z => ?_) fun hm => ?_⟩
  · exact k.off (List.mem_filterMap.mpr ⟨X.env, List.mem_cons_self, by rw [hf, z]⟩)
  · obtain ⟨en, hen, q⟩ := List.mem_filterMap.mp hm
    exact k.off (List.mem_filterMap.mpr ⟨en, List.mem_cons_of_mem _ hen, q⟩)
variable {pins : List (Addr × Obj)} {σ : L2.St} {H : Hp} {sI s1 : Shared} {B : Heap} {a : Addr} {cls : Value} {d : Option Addr} {g : Heap} {D : Ends}
/-- no clause took it: on it goes -/
theorem Caught.on (hs : X.stack = X.env :: X.outer) (hf : X.env.frame = some X.env.locals) (tk : Takes X Wout) (k : Caught X pins σ H sI s1 B a cls d g) (w : Wout cls d σ H) :
    wpAny (model X.prog X.w) X.A (handleBy (.ref a) X.env []) (SP X pins D) X.xe { s1 with heap := g } := by
  apply wpAny_handleBy_nil
  have out : wpAny (model X.prog X.w) X.A (setFlight (.ref a) X.env.frame) (fun _ s4 => wpAny (model X.prog X.w) X.A (throw (.ref a) : Sem Flow) (SP X pins D) X.xe s4) X.xe { s1 with heap := g } := by
    rw [hf]
    refine HandSPX.setFlight_upZ k.fl fun g2 held up2 => ?_
    refine wpAny_throw (tk _ _ ⟨a, B, sI, pins, σ, H, cls, d, rfl, k.J, k.nb, k.up.trans up2, ?_, k.na, k.os, k.ag, w⟩)
    rw [hs]
    exact .inr (.inr held)
  obtain ⟨-, -, -, ob, fs, T, oT, tr, eo, _, ed, e1, -⟩ := id k.fl
  have ne : ¬ ((Value.ref T == Value.none) = true) := by simp
  unfold PySem.passOn
  refine wpAny_bind (wpAny_field eo ed e1 ?_)
  rw [if_neg ne]
  first
    | exact wpAny_bind (wpAny_pure (wpAny_bind out))
    | exact wpAny_bind out
/-- the clause that takes it, without a name -/
theorem Caught.suite0 {st : Stmt} {suite : List Stmt} {p2 : Pos} {ts : Addr → Value → Option Addr → TS} {R : Except Value Flow → Shared → Prop} (hf : X.env.frame = some X.env.locals) (su : SuiteOk X (st :: suite) ts) (k : Caught X pins σ H sI s1 B a cls d g) (w : ts a cls d D σ H)
    (hR : ∀ f s', SP X pins D f s' → R (.ok f) s') : codeAny (model X.prog X.w) (X.A.mark (some (.ref a))) (.handlers (.ref a) [.ExceptHandler none none (st :: suite) p2] X.env) R { s1 with heap := g } := by
  apply codeAny_handlers_suite
  refine HandSPX.lands_againZ k.fl fun g2 fl2 up2 => ?_
  obtain ⟨ob, _, hz, hfs, S⟩ := Caught.in_ hf { k with up := k.up.trans up2, fl := fl2 }
  refine wpAny_mono ((su a ob cls d (X.pn ++ pins) hz hfs).run [] _ σ H D S w) (fun f s' q => hR f s' ?_) (fun _ _ z => False.elim z)
  have ok := k.J.ok
  cases f with
  | ret u => obtain ⟨v, σ2, H2, S2, r, q⟩ := q; exact ⟨v, σ2, H2, S2.unsuite ok, r, q⟩
  | next => obtain ⟨σ2, H2, S2, q⟩ := q; exact ⟨σ2, H2, S2.unsuite ok, q⟩
  | brk => obtain ⟨σ2, H2, S2, q⟩ := q; exact ⟨σ2, H2, S2.unsuite ok, q⟩
  | cont => obtain ⟨σ2, H2, S2, q⟩ := q; exact ⟨σ2, H2, S2.unsuite ok, q⟩
/-- the clause that takes it, with a name -/
theorem Caught.suite1 {st : Stmt} {suite : List Stmt} {p2 p3 : Pos} {n : Str} {i : Nat} {ts : Addr → Value → Option Addr → TS} {R : Except Value Flow → Shared → Prop} (hf : X.env.frame = some X.env.locals) (hN : X.N.Nodup) (hi : X.N[i]? = some n) (hl : X.env.kindOf n = some .local)
    (su : SuiteOk X (st :: suite) ts) (k : Caught X pins σ H sI s1 B a cls d g) (w : ts a cls d (goneE D i) (σ.set i (some (.ref a))) H)
    (hR : ∀ f s', wpAny (model X.prog X.w) X.A (do bindName X.env n .none; unbindBehindTheSuite X.env n p3) (fun _ s2 => SP X pins D f s2) X.xe s' → R (.ok f) s') : codeAny (model X.prog X.w) (X.A.mark (some (.ref a))) (.handlers (.ref a) [.ExceptHandler none (some n) (st :: suite) p2] X.env) R { s1 with heap := g } := by
  apply codeAny_handlers_suite_as
  refine HandSPX.lands_againZ k.fl fun g2 fl2 up2 => ?_
  obtain ⟨ob, _, hz, hfs, S⟩ := Caught.in_ hf { k with up := k.up.trans up2, fl := fl2 }
  refine store_ok (X := X.suite a ((a, ob) :: (X.pn ++ pins))) (v := .ref a) S hN hi (.inl hl) rfl (fun s5 S5 => ?_) (.inr hl)
  refine wpAny_mono ((su a ob cls d (X.pn ++ pins) hz hfs).run [] s5 _ H (goneE D i) S5 w) (fun f s' q => hR f s' ?_) (fun _ _ z => False.elim z)
  have ok := k.J.ok
  cases f with
  | ret u => obtain ⟨v, σ2, H2, S2, r, q⟩ := q; exact gone_ok (S2.unsuite ok) hN hi hl fun s7 J7 => ⟨v, _, H2, J7, r, q⟩
  | next => obtain ⟨σ2, H2, S2, q⟩ := q; exact gone_ok (S2.unsuite ok) hN hi hl fun s7 J7 => ⟨_, H2, J7, q⟩
  | brk => obtain ⟨σ2, H2, S2, q⟩ := q; exact gone_ok (S2.unsuite ok) hN hi hl fun s7 J7 => ⟨_, H2, J7, q⟩
  | cont => obtain ⟨σ2, H2, S2, q⟩ := q; exact gone_ok (S2.unsuite ok) hN hi hl fun s7 J7 => ⟨_, H2, J7, q⟩
/-- the class of a clause is asked for -/
theorem Caught.asks {x : Str} {c : Value} {p1 p2 : Pos} {hit : Bool} {R : Except Value Flow → Shared → Prop} (hf : X.env.frame = some X.env.locals) (nm : Names X x c) (k : Caught X pins σ H sI s1 B a cls d g) (e : PySem.W.exmOne X.K cls c = some hit)
    (hR : R (.ok (if hit then .brk else .next)) { s1 with heap := g }) : codeAny (model X.prog X.w) (X.A.mark (some (.ref a))) (.handlers (.ref a) [.ExceptHandler (some (.Name x p1)) none [] p2] X.env) R { s1 with heap := g } := by
  apply codeAny_handlers_test
  obtain ⟨ob, he, hz, _, S⟩ := k.in_ hf
  have ty : PySem.W.Looks (model X.prog X.w) g (typeOf (.ref a)) cls := fun _ _ _ _ kp q => wpAny_typeOf_ref (kp _ _ he) (by rw [hz.1]; exact q)
  have mt := PySem.W.exm_one (M := model X.prog X.w) k.inv.kIn ty e
  obtain ⟨gl, nd, m | ⟨m, bv, nn⟩⟩ := nm
  · exact ld_glob (X := X.suite a ((a, ob) :: (X.pn ++ pins))) S gl m (mt.here hR) nd
  · exact ld_blt (X := X.suite a ((a, ob) :: (X.pn ++ pins))) S gl m bv (mt.here hR) nn nd
theorem Caught.clauses (hs : X.stack = X.env :: X.outer) (hf : X.env.frame = some X.env.locals) (hN : X.N.Nodup) (tk : Takes X Wout) (k : Caught X pins σ H sI s1 B a cls d g) : ∀ {hds : List ExceptHandler} {l : List Cla}, ClaOk X hds l → wCla X.K Wout D l cls d σ H →
    wpAny (model X.prog X.w) X.A (handleBy (.ref a) X.env hds) (SP X pins D) X.xe { s1 with heap := g } := by
  intro hds l hk
  induction hk with
  | nil => exact fun w => k.on hs hf tk w
  | plain nm su r ih =>
    rintro ⟨hit, e, yes, no⟩
    refine wpAny_handleBy_cons (k.asks hf nm e ?_) (by intro q; cases q)
    cases hit with
    | true => exact k.suite0 hf su (yes rfl a k.na) fun f s' q => q
    | false => exact ih (no rfl)
  | named nm hi hl su r ih =>
    rintro ⟨hit, e, yes, no⟩
    refine wpAny_handleBy_cons (k.asks hf nm e ?_) (by intro q; cases q)
    cases hit with
    | true => exact k.suite1 hf hN hi hl su (yes rfl a k.na) fun f s' q => q
    | false => exact ih (no rfl)
/-- try: .. except A: .. except B as e: .. -/
theorem ps_clauses (hs : X.stack = X.env :: X.outer) (hf : X.env.frame = some X.env.locals) (hN : X.N.Nodup) (tk : Takes X Wout)
    (hb : ∀ (W : WX) (ps : List (Addr × Obj)) (xe : Value → Shared → Prop), Takes (X.tr ps xe) W → PassesOwn (model X.prog X.w) X.A X.env xe → PSs (X.tr ps xe) body (tb W))
    (hh : ClaOk X (h0 :: hds) l) : PS X (.Try body (h0 :: hds) [] [] pos) (fun D σ H => tb (wCla X.K Wout D l) D σ H) := by
  refine ⟨fun ps s σ H D I h => ?_⟩
  have ok := I.ok
  apply wpAny_Try_except
  let xe : Value → Shared → Prop := fun e s1 => wpAny (model X.prog X.w) X.A (noteFrame e X.env) (fun _ s2 => wpAny (model X.prog X.w) X.A (setFlight e none) (fun _ s3 => wpAny (model X.prog X.w) X.A (handleBy e X.env (h0 :: hds)) (SP X ps D) X.xe s3) X.xe s2) X.xe s1
  have tx : Takes (X.tr (X.pn ++ ps) xe) (wCla X.K Wout D l) := fun u s' xx => by
    obtain ⟨a, B, sI, ps', σ2, H2, cls, d, rfl, J', nb, up, sky, na, os, ag, w⟩ := xx
    have sk : Sky B (X.env :: X.outer) a (Zc cls d) X.env.locals s'.heap := by rw [← hs]; exact sky
    refine Sky.land Zc.steady (by rw [ok.frames, hs]) hf sk fun g fl up2 => ?_
    exact Caught.clauses hs hf hN tk ⟨J'.ofTry ok, nb, up.trans up2, os, ag, na, fl⟩ hh w
  refine wpAny_mono ((hb _ (X.pn ++ ps) xe tx PassesOwn.looking).run [] s σ H D (I.toTry _) h) (fun f s1 q => ?_) (fun e s1 he => he)
  cases f with
  | next => obtain ⟨σ2, H2, J, q⟩ := q; exact wpAny_execs_nil ⟨σ2, H2, J.ofTry ok, q⟩
  | ret u => obtain ⟨v, σ2, H2, J, r, q⟩ := q; exact ⟨v, σ2, H2, J.ofTry ok, r, q⟩
  | brk => obtain ⟨σ2, H2, J, q⟩ := q; exact ⟨σ2, H2, J.ofTry ok, q⟩
  | cont => obtain ⟨σ2, H2, J, q⟩ := q; exact ⟨σ2, H2, J.ofTry ok, q⟩
end
end Cs
set_option maxHeartbeats 4000000
namespace Cs
open PySem PySem.Spec PyProof.Rows L2
section
variable {α β γ δ : Type} {W : Wd} {K : PySem.W.Frag} {ta tb tc td : TE} {t : Ty α} {u : Ty β} {x x' : α} {y : β} {tt uu : TT} {ar ak : TA} {fs : List SF} {i : Nat} {E : XK} {ts us vs : TS} {D : Ends} {g : TG} {as : α → List (Nat × SF)} {wi : TI}
/-! ### values whose evaluation changes the things -/
def Evm (W : Wd) (te : TE) (t : Ty α) (P : α → Wd → Prop) : Prop := ∀ σ H, Ok W σ H → ∀ Q : VK, (∀ v x W' H', P x W' → Ok W' σ H' → t.r (hid W'.S H') v x → Q v H') → te σ H Q
theorem go_dropm {P : α → Wd → Prop} (h : Evm W ta t P) (k : ∀ x W', P x W' → Go W' us D) : Go W (tSeq (tDrop ta) us) D := fun σ H o => h σ H o _ fun v x W' H' p o' r => k x W' p σ H' o'
theorem go_drop1m {P : α → Wd → Prop} (h : Evm W ta t P) (k : ∀ x W', P x W' → ∀ σ H, Ok W' σ H → D.nx σ H) : Go W (tDrop ta) D := fun σ H o => h σ H o _ fun v x W' H' p o' r => k x W' p σ H' o'
theorem go_setm {P : α → Wd → Prop} (h : Evm W ta t P) (k : ∀ x W', P x W' → Go (W'.at i (t.is x)) us D) : Go W (tSeq (tAsg ta (gName i)) us) D := fun σ H o => h σ H o _ fun v x W' H' p o' r => k x W' p _ _ (o'.put r)
theorem go_dropx {P : α → Prop} (h : Evx W ta t P) (k : ∀ x, P x → Go W us D) : Go W (tSeq (tDrop ta) us) D := fun σ H o => h σ H o _ fun v x H1 p g r => k x p _ _ g.ok
theorem go_drop1 (h : Ev W ta t x) (k : ∀ σ H, Ok W σ H → D.nx σ H) : Go W (tDrop ta) D := fun σ H o => h σ H o _ fun v H1 g r => k _ _ g.ok
/-- a def that changes the things C and leaves others in their place -/
def spS (C : α → List RS) (A : α → List SF) (w : Ty β) (pre : α → Prop) (post : α → β → List RS → Prop) : Sp := fun vs H Q _ => ∃ (S : List Addr) (x : α), (∀ a ∈ S, H a ≠ none) ∧ (fps (C x)).Nodup ∧ (∀ a, a ∈ fps (C x) → a ∈ S) ∧ RsAt (C x) S H ∧
  Fits (hid S H) (A x) vs ∧ pre x ∧ ∀ v y N C' H', post x y C' → Bt (fps (C x)) H H' → (∀ a, a ∈ N → H a = none ∧ H' a ≠ none) → (fps C').Nodup → (∀ a, a ∈ fps C' → a ∈ fps (C x) ∨ a ∈ N) → (∀ a, a ∈ fps (C x) → H' a ≠ none) → RsAt C' (N ++ S) H' → w.r (hid (N ++ S) H') v y → Q v H'
/-- the world behind it -/
def Aft (W : Wd) (R : List RS) (post : List RS → Prop) (W' : Wd) : Prop := ∃ N C', post C' ∧ W' = { W with S := N ++ W.S, L := C' ++ R }
theorem aft_of {C R : List RS} {σ : L2.St} {H H1 : Hp} {N : List Addr} {C' : List RS} (o : Ok W σ H1) (hL : W.L.Perm (C ++ R)) (b : Bt (fps C) H1 H) (hN : ∀ a, a ∈ N → H1 a = none ∧ H a ≠ none) (nd : (fps C').Nodup) (hC' : ∀ a, a ∈ fps C' → a ∈ fps C ∨ a ∈ N) (al : ∀ a, a ∈ fps C → H a ≠ none) (rs : RsAt C' (N ++ W.S) H) :
    Ok { W with S := N ++ W.S, L := C' ++ R } σ H := ((o.perm hL).change1 (C := C) (C' := C') (R := R) (N := N) rfl b hN nd hC' al rs).1
theorem evm_call {C : γ → List RS} {A : γ → List SF} {w : Ty β} {pre : γ → Prop} {post : γ → β → List RS → Prop} {z : γ} {R : List RS} (h : Ea W ar (A z)) (hp : pre z) (hL : W.L.Perm (C z ++ R)) : Evm W (tCall (spS C A w pre post) [] E ar) w (fun y => Aft W R (post z y)) := fun σ H o Q q => h σ H o _ fun vs H1 g1 r1 => by
  have o1 := g1.ok.perm hL
  refine ⟨W.S, z, g1.ok.al, (nodup_app.mp o1.nod).1, fun a m => ?_, fun r m => o1.at_ r (List.mem_append_left _ m), by rw [List.append_nil]; exact r1, hp, fun v y N C' H2 py b hN nd hC' al rs r => ?_⟩
  · obtain ⟨r, m1, m2⟩ := of_fps m
    exact (o1.own a (mem_fps (List.mem_append_left _ m1) m2)).1
  · exact q v y _ H2 ⟨N, C', py, rfl⟩ (aft_of g1.ok hL b hN nd hC' al rs) r
/-! ### methods -/
/-- the thing r says: at b an instance of C, without an own attribute named m -/
def IsOb (r : RS) (b C : Addr) (m : Str) : Prop := ∀ F H, r.p F H → ∃ dx fs, H b = some (.ins C dx fs) ∧ fs.lookup m = none
theorem evx_meth {r : RS} {b Cl : Addr} {m : Str} {C : γ → List RS} {A : γ → List SF} {w : Ty β} {pre : γ → Prop} {post : γ → β → Prop} {z : γ} {gs : List SF} (hi : IsOb r b Cl m) (hr : r ∈ W.L) (ho : Ev W ta tRf b) (h : Ea W ar gs) (hA : A z = tRf.is b :: gs) (hp : pre z) (hC : (C z).Sublist W.L := by first | exact List.nil_sublist _ | exact List.Sublist.refl _ | exact List.singleton_sublist.mpr (by simp) | simp) :
    Evx W (tMeth Cl m (spN C A w pre post) [] E ta ar) w (post z) := fun σ H o Q q => ho σ H o _ fun v0 H0 g0 r0 => by
  obtain rfl : v0 = .ref b := r0
  obtain ⟨dx, fs, h1, h2⟩ := hi _ _ (g0.ok.at_ r hr)
  refine ⟨b, dx, fs, rfl, h1, h2, h σ H0 g0.ok _ fun vs H1 g1 r1 => ?_⟩
  have sub : ∀ a, a ∈ fps (C z) → a ∈ W.S := fun a m => by
    obtain ⟨r, m1, m2⟩ := of_fps m
    exact (g1.ok.own a (mem_fps (hC.subset m1) m2)).1
  refine ⟨W.S, z, g1.ok.al, (fps_sub hC).nodup g1.ok.nod, sub, fun r m => g1.ok.at_ r (hC.subset m), by rw [List.append_nil, hA]; exact ⟨rfl, r1⟩, hp, fun v y H2 py bt al c rr => ?_⟩
  exact q v y H2 py ((g0.trans g1).trans (g1.ok.after (fun r m => hC.subset m) bt al c)) rr
theorem evm_meth {r : RS} {b Cl : Addr} {m : Str} {C : γ → List RS} {A : γ → List SF} {w : Ty β} {pre : γ → Prop} {post : γ → β → List RS → Prop} {z : γ} {R : List RS} {gs : List SF} (hi : IsOb r b Cl m) (hr : r ∈ W.L) (ho : Ev W ta tRf b) (h : Ea W ar gs) (hA : A z = tRf.is b :: gs) (hp : pre z) (hL : W.L.Perm (C z ++ R)) :
    Evm W (tMeth Cl m (spS C A w pre post) [] E ta ar) w (fun y => Aft W R (post z y)) := fun σ H o Q q => ho σ H o _ fun v0 H0 g0 r0 => by
  obtain rfl : v0 = .ref b := r0
  obtain ⟨dx, fs, h1, h2⟩ := hi _ _ (g0.ok.at_ r hr)
  refine ⟨b, dx, fs, rfl, h1, h2, h σ H0 g0.ok _ fun vs H1 g1 r1 => ?_⟩
  have o1 := g1.ok.perm hL
  refine ⟨W.S, z, g1.ok.al, (nodup_app.mp o1.nod).1, fun a m => ?_, fun r m => o1.at_ r (List.mem_append_left _ m), by rw [List.append_nil, hA]; exact ⟨rfl, r1⟩, hp, fun v y N C' H2 py b hN nd hC' al rs r => ?_⟩
  · obtain ⟨r, m1, m2⟩ := of_fps m
    exact (o1.own a (mem_fps (List.mem_append_left _ m1) m2)).1
  · exact q v y _ H2 ⟨N, C', py, rfl⟩ (aft_of g1.ok hL b hN nd hC' al rs) r
/-- e.f, a property -/
theorem evx_prop {r : RS} {b Cl : Addr} {C : γ → List RS} {A : γ → List SF} {w : Ty β} {pre : γ → Prop} {post : γ → β → Prop} {z : γ} (hi : ∀ F H, r.p F H → ∃ dx fs, H b = some (.ins Cl dx fs)) (hr : r ∈ W.L) (ho : Ev W ta tRf b) (hA : A z = [tRf.is b]) (hp : pre z) (hC : (C z).Sublist W.L := by first | exact List.nil_sublist _ | exact List.Sublist.refl _ | exact List.singleton_sublist.mpr (by simp) | simp) :
    Evx W (tProp Cl (spN C A w pre post) [] E ta) w (post z) := fun σ H o Q q => ho σ H o _ fun v0 H0 g0 r0 => by
  obtain rfl : v0 = .ref b := r0
  obtain ⟨dx, fs, h1⟩ := hi _ _ (g0.ok.at_ r hr)
  have sub : ∀ a, a ∈ fps (C z) → a ∈ W.S := fun a m => by
    obtain ⟨r, m1, m2⟩ := of_fps m
    exact (g0.ok.own a (mem_fps (hC.subset m1) m2)).1
  refine ⟨b, dx, fs, rfl, h1, W.S, z, g0.ok.al, (fps_sub hC).nodup g0.ok.nod, sub, fun r m => g0.ok.at_ r (hC.subset m), by rw [hA]; exact ⟨rfl, trivial⟩, hp, fun v y H2 py bt al c rr => ?_⟩
  exact q v y H2 py (g0.trans (g0.ok.after (fun r m => hC.subset m) bt al c)) rr
theorem start_slots {H : Hp} {fs : List SF} {vs : List V} {N : List Str} {m i : Nat} {f : SF} (hm : vs.length = m) (ft : Fits H fs vs) (q : (fs.map some ++ List.replicate (N.length - m) none)[i]? = some (some f)) : ∃ v, (L2.start N vs)[i]? = some (some v) ∧ f.p H v := by
  unfold L2.start
  by_cases l : i < fs.length
  · rw [List.getElem?_append_left (by simpa using l), List.getElem?_map] at q
    cases c : fs[i]? with
    | none => rw [c] at q; cases q
    | some z =>
      rw [c] at q
      obtain rfl : z = f := Option.some.inj (Option.some.inj q)
      obtain ⟨v, hv, hz⟩ := ft.get c
      exact ⟨v, by rw [List.getElem?_append_left (by simpa [ft.length] using l), List.getElem?_map, hv]; rfl, hz⟩
  · rw [List.getElem?_append_right (by simpa using l)] at q
    have := List.mem_of_getElem? q
    rw [List.mem_replicate] at this
    exact absurd this.2 (by simp)
/-! ### the end of a def that changes things -/
/-- what such a promise wants at its end -/
def RtS (C : List RS) (S : List Addr) (H : Hp) (w : Ty β) (P : β → List RS → Prop) (Q : VK) : Prop := ∀ v y N C' H', P y C' → Bt (fps C) H H' → (∀ a, a ∈ N → H a = none ∧ H' a ≠ none) → (fps C').Nodup → (∀ a, a ∈ fps C' → a ∈ fps C ∨ a ∈ N) → (∀ a, a ∈ fps C → H' a ≠ none) → RsAt C' (N ++ S) H' → w.r (hid (N ++ S) H') v y → Q v H'
theorem ends_S {C C' : List RS} {S N : List Addr} {w : Ty β} {P : β → List RS → Prop} {Q : VK} {σ : L2.St} {H : Hp} {v : V} (o : Ok W σ H) (out : RtS C S W.H0 w P Q) (r : w.r (hid W.S H) v y) (hp : P y C') (hS : W.S = N ++ S) (hL : W.L.Perm C') (hM : W.M = fps C) (al : ∀ a, a ∈ S → W.H0 a ≠ none) (hN : ∀ a, a ∈ N → a ∈ fps C' ∧ a ∉ S) (hMS : ∀ a, a ∈ fps C → a ∈ S) : Q v H := by
  have o' := o.perm hL
  have fr : ∀ a, a ∈ N → W.H0 a = none := fun a m => by
    rcases (o'.own a (hN a m).1).2 with q | q
    · exact absurd (hMS a (by rw [← hM]; exact q)) (hN a m).2
    · exact q
  refine out v y N C' H hp (by rw [← hM]; exact o.bt) (fun a m => ⟨fr a m, o.al a (by rw [hS]; exact List.mem_append_left _ m)⟩) o'.nod (fun a m => ?_) (fun a m => o.al a (o.ms a (by rw [hM]; exact m))) (fun r m => ?_) (by rw [← hS]; exact r)
  · have := (o'.own a m).1
    have h1 : a ∈ N ++ S := by rw [← hS]; exact this
    rcases List.mem_append.mp h1 with q | q
    · exact .inr q
    · rcases (o'.own a m).2 with z | z
      · exact .inl (by rw [← hM]; exact z)
      · exact absurd z (al a q)
  · have := o'.at_ r m
    rw [← hS]
    exact this
theorem ok_S {P : Program} {w : World} {mg : Str → Option Value} {base : Heap} {nm qual : Str} {st : Stmt} {f : Addr} {fd : FuncData} {N ps : List Str} {k : Nat} {C : α → List RS} {A : α → List SF} {wt : Ty β} {pre : α → Prop} {post : α → β → List RS → Prop}
    (F : Fun K nm qual st f fd) (S : FnScope N ps (defScope st)) (hl : ∀ x, (A x).length = ps.length)
    (body : ∀ (cdv : Value) (A' : Around) (outer : List Env) (s : Shared) (H0 : Hp) (S : List Addr) (x : α) (Q : VK) (E : XK), Room k (A'.deeper (envOfC qual (defScope st) s.heap.objs.size f cdv)) → pre x → (∀ a, a ∈ S → H0 a ≠ none) → (∀ a, a ∈ fps (C x) → a ∈ S) → RtS (C x) S H0 wt (post x) Q →
      ∃ t, PSs (cxOf CX0 P w K mg base N qual (defScope st) f cdv A' outer s H0 E).nox (defBody st) t ∧ Go ⟨H0, fps (C x), S, C x, [], (A x).map some ++ List.replicate (N.length - ps.length) none⟩ t { nx := fun _ H' => Q .non H', rt := Q }) :
    FnOk P w K mg base CX0 (k + 1) f fd ps (spS C A wt pre post) := by
  refine F.ok S (fun vs H Q E h => ?_) (fun cdv A' outer s H vs Q E hr h => ?_)
  · obtain ⟨S', x, _, _, _, _, ft, _⟩ := h
    rw [ft.length, hl]
  · obtain ⟨S', x, al, nd, sub, cc, ft, hp, out⟩ := h
    obtain ⟨t, h1, h2⟩ := body cdv A' outer s H S' x Q E hr hp al sub (fun v y N' C' H' => out v y N' C' H')
    refine ⟨t, h1, h2 _ _ ⟨nd, fun a m => ⟨sub a m, .inl m⟩, cc, sub, al, Bt.refl, ?_, (fun f m => nomatch m), fun i f' q => ?_⟩⟩
    · have e1 := ft.length
      have e2 := hl x
      show (L2.start N vs).length = _
      unfold L2.start
      simp only [List.length_append, List.length_map, List.length_replicate]
      omega
    · exact start_slots (by rw [ft.length, hl]) ft q
end
end Cs
set_option maxHeartbeats 4000000
namespace Cs
open PySem PySem.Spec PyProof.Rows L2
/-! ### methods by their promise -/
def CalM (P : Program) (w : World) (K : PySem.W.Frag) (mg : Str → Option Value) (base : Heap) (k : Nat) (C : Addr) (m : Str) (ps : List Str) (sp : Sp) : Prop :=
  ∃ (f : Addr) (fd : FuncData), Meth K C m f ∧ FnOk P w K mg base CX0 k f fd ps sp ∧ Binds K fd ps []
def CalMX (P : Program) (w : World) (K : PySem.W.Frag) (mg : Str → Option Value) (base : Heap) (k : Nat) (C : Addr) (m : Str) (ps : List Str) (sp : Sp) : Prop :=
  ∃ (f : Addr) (fd : FuncData), Meth K C m f ∧ FnOk P w K mg base (L2.CX P w) k f fd ps sp ∧ Binds K fd ps []
def CalP (P : Program) (w : World) (K : PySem.W.Frag) (mg : Str → Option Value) (base : Heap) (k : Nat) (C : Addr) (n : Str) (sp : Sp) : Prop :=
  ∃ (p f : Addr) (fd : FuncData), PropOf K C n p f ∧ FnOk P w K mg base CX0 k f fd ["self"] sp ∧ Binds K fd ["self"] []
section
variable {P : Program} {w : World} {K : PySem.W.Frag} {mg : Str → Option Value} {base : Heap} {k j : Nat} {C : Addr} {m : Str} {ps : List Str} {sp : Sp}
theorem CalM.mono (c : CalM P w K mg base j C m ps sp) (h : j ≤ k) : CalM P w K mg base k C m ps sp := by
  obtain ⟨f, fd, M, F, b⟩ := c
  exact ⟨f, fd, M, F.mono h, b⟩
theorem CalMX.mono (c : CalMX P w K mg base j C m ps sp) (h : j ≤ k) : CalMX P w K mg base k C m ps sp := by
  obtain ⟨f, fd, M, F, b⟩ := c
  exact ⟨f, fd, M, F.mono h, b⟩
theorem CalP.mono (c : CalP P w K mg base j C m sp) (h : j ≤ k) : CalP P w K mg base k C m sp := by
  obtain ⟨p, f, fd, M, F, b⟩ := c
  exact ⟨p, f, fd, M, F.mono h, b⟩
end
/-- how the call of a method is told -/
abbrev MCall (X : Cx) (o : Expr) (m : Str) (es : List Expr) (apos pos : Pos) (pl : Sem Bool) : Prop := eval (.Call (.Attribute o m apos) es [] pos) X.env = (eval o X.env >>= fun ov => standAt apos.atName >>= fun _ => holding [ov] (getMethod ov m pl) >>= fun q =>
  callWith pos q.1 q.2 (backTo pos (starEach es X.env)) (backToKw pos (keywordEach [] X.env)))
/-- o.m(e, ..) that may raise, by the slots -/
def tMethX (C : Addr) (m : Str) (sp : Sp) (E : L2.St → XK) (ta : TE) (t : TA) : TE := fun σ H Q => ta σ H fun x H1 => ∃ a dx fs, x = .ref a ∧ H1 a = some (.ins C dx fs) ∧ fs.lookup m = none ∧ t σ H1 fun vs H2 => sp (x :: vs) H2 Q (E σ)
section
variable {X : Cx} {k : Nat} {C : Addr} {m : Str} {ps : List Str} {sp : Sp} {p pos apos : Pos} {o e : Expr} {es : List Expr} {ta : TE} {t : TA} {E : XK} {pl : Sem Bool}
theorem pe_calM (he : PE X o ta) (c : CalM X.prog X.w X.K X.mg X.base k C m ps sp) (cl : Cls X.K C) (hr : Room k X.A) (ha : PA X (e :: es) t) (hst : starEach (e :: es) X.env = (false, eval e X.env) :: starEach es X.env := by rfl) (hpl : (backTo pos (starEach es X.env)).any (·.1) = false := by rfl)
    (ht : MCall X o m (e :: es) apos pos pl := by rfl) : PE X (.Call (.Attribute o m apos) (e :: es) [] pos) (tMeth C m sp [] E0 ta t) := by
  obtain ⟨f, fd, M, F, b⟩ := c
  exact pe_meth he cl M F hr b .nil (fun _ _ _ _ _ _ _ z => z.elim) ha hst hpl ht
theorem pe_calM0 (he : PE X o ta) (c : CalM X.prog X.w X.K X.mg X.base k C m ps sp) (cl : Cls X.K C) (hr : Room k X.A)
    (ht : MCall X o m [] apos pos pl := by rfl) : PE X (.Call (.Attribute o m apos) [] [] pos) (tMeth C m sp [] E0 ta tNil) := by
  obtain ⟨f, fd, M, F, b⟩ := c
  exact pe_meth0 he cl M F hr b .nil (fun _ _ _ _ _ _ _ z => z.elim) ht
theorem pe_calMX (he : PE X o ta) (c : CalMX X.prog X.w X.K X.mg X.base k C m ps sp) (cl : Cls X.K C) (hr : Room k X.A) (hx : Passes (L2.CX X.prog X.w) X E) (ha : PA X (e :: es) t) (hst : starEach (e :: es) X.env = (false, eval e X.env) :: starEach es X.env := by rfl) (hpl : (backTo pos (starEach es X.env)).any (·.1) = false := by rfl)
    (ht : MCall X o m (e :: es) apos pos pl := by rfl) : PE X (.Call (.Attribute o m apos) (e :: es) [] pos) (tMeth C m sp [] E ta t) := by
  obtain ⟨f, fd, M, F, b⟩ := c
  exact pe_meth he cl M F hr b .nil hx ha hst hpl ht
theorem pe_calMS {E : L2.St → XK} (he : PE X o ta) (c : CalMX X.prog X.w X.K X.mg X.base k C m ps sp) (cl : Cls X.K C) (hr : Room k X.A) (hx : ∀ σ, PassesAt (L2.CX X.prog X.w) X σ (E σ)) (ha : PA X (e :: es) t) (hst : starEach (e :: es) X.env = (false, eval e X.env) :: starEach es X.env := by rfl) (hpl : (backTo pos (starEach es X.env)).any (·.1) = false := by rfl)
    (ht : MCall X o m (e :: es) apos pos pl := by rfl) : PE X (.Call (.Attribute o m apos) (e :: es) [] pos) (tMethX C m sp E ta t) := by
  obtain ⟨f, fd, M, F, b⟩ := c
  refine ⟨fun pins s σ H Q I h => PySem.W.methodCall_KW (pl := pl) (thn (he.run pins s σ H _ I h) fun u s1 => ?_) ht⟩
  rintro ⟨y, H1, I1, ry, a, dx, fs, rfl, at1, lk, q⟩
  obtain rfl : u = .ref a := ry
  refine getmeth_ok I1 at1 cl M lk (PySem.W.callWith_K (first := [.ref a]) (h₀ := X.base) I1.ok.mod.kin M.kp (thn (ha.run pos pins s1 σ H1 _ I1 q) fun us s2 => ?_) hst hpl)
  rintro ⟨vs, H2, I2, r, q2⟩
  exact ⟨I2.kIn, run_fnS (us := .ref a :: us) (vs := .ref a :: vs) F hr b (hx σ) I2 (.cons rfl r) q2⟩
end
section
variable {X : Cx} {k : Nat} {C : Addr} {n : Str} {sp : Sp} {pos : Pos} {o : Expr} {ta : TE} {E : XK}
theorem pe_calP (he : PE X o ta) (c : CalP X.prog X.w X.K X.mg X.base k C n sp) (cl : Cls X.K C) (hr : Room (k + 1) X.A) (hab : attributeBase o n X.env (eval o X.env) = eval o X.env := by rfl) : PE X (.Attribute o n pos) (tProp C sp [] E0 ta) := by
  obtain ⟨p, f, fd, M, F, b⟩ := c
  exact pe_prop he cl M F hr b .nil (fun _ _ _ _ _ _ _ z => z.elim) hab
end
/-! ### promises to raise -/
section
variable {α β γ δ : Type} {W : Wd} {K : PySem.W.Frag} {ta tb tc td : TE} {t : Ty α} {u : Ty β} {x x' : α} {y : β} {tt uu : TT} {ar ak : TA} {fs : List SF} {i : Nat} {E : XK} {ts us vs : TS} {D : Ends}
/-- an error of the class at CE with such attributes; the things C keep what they promise -/
def spE (C : α → List RS) (A : α → List SF) (pre : α → Prop) (CE : Addr) (flds : α → List (Str × SF)) : Sp := fun vs H _ E => ∃ (S : List Addr) (x : α), (∀ a ∈ S, H a ≠ none) ∧ (fps (C x)).Nodup ∧ (∀ a, a ∈ fps (C x) → a ∈ S) ∧ RsAt (C x) S H ∧ Fits (hid S H) (A x) vs ∧ pre x ∧
  ∀ d fs H', Bt (fps (C x)) H H' → (∀ a, a ∈ fps (C x) → H' a ≠ none) → RsAt (C x) S H' → H' d = some (.xd fs) → FldAt (hid S H') fs (flds x) → E (.ref CE) (some d) H'
/-- where an error of the world W goes: the wish w, at these slots -/
def Flies (W : Wd) (σ : L2.St) (CE : Addr) (flds : List (Str × SF)) (w : XK) : Prop := ∀ d fs H', Ok W σ H' → H' d = some (.xd fs) → FldAt (hid W.S H') fs flds → w (.ref CE) (some d) H'
theorem evx_methE {r : RS} {b Cl CE : Addr} {m : Str} {C : γ → List RS} {A : γ → List SF} {w : Ty β} {pre : γ → Prop} {flds : γ → List (Str × SF)} {z : γ} {gs : List SF} {EE : L2.St → XK} (hi : IsOb r b Cl m) (hr : r ∈ W.L) (ho : Ev W ta tRf b) (h : Ea W ar gs) (hA : A z = tRf.is b :: gs) (hp : pre z) (fl : ∀ σ, Flies W σ CE (flds z) (EE σ))
    (hC : (C z).Sublist W.L := by first | exact List.nil_sublist _ | exact List.Sublist.refl _ | exact List.singleton_sublist.mpr (by simp) | simp) : Evx W (tMethX Cl m (spE C A pre CE flds) EE ta ar) w (fun _ => False) := fun σ H o Q q => ho σ H o _ fun v0 H0 g0 r0 => by
  obtain rfl : v0 = .ref b := r0
  obtain ⟨dx, fs, h1, h2⟩ := hi _ _ (g0.ok.at_ r hr)
  refine ⟨b, dx, fs, rfl, h1, h2, h σ H0 g0.ok _ fun vs H1 g1 r1 => ?_⟩
  have sub : ∀ a, a ∈ fps (C z) → a ∈ W.S := fun a m => by
    obtain ⟨r, m1, m2⟩ := of_fps m
    exact (g1.ok.own a (mem_fps (hC.subset m1) m2)).1
  refine ⟨W.S, z, g1.ok.al, (fps_sub hC).nodup g1.ok.nod, sub, fun r m => g1.ok.at_ r (hC.subset m), by rw [hA]; exact ⟨rfl, r1⟩, hp, fun d xs H2 bt al c hd hf => ?_⟩
  exact fl σ d xs H2 (g1.ok.after (fun r m => hC.subset m) bt al c).ok hd hf
/-- the same, one wish at all slots -/
theorem evx_methE0 {r : RS} {b Cl CE : Addr} {m : Str} {C : γ → List RS} {A : γ → List SF} {w : Ty β} {pre : γ → Prop} {flds : γ → List (Str × SF)} {z : γ} {gs : List SF} (hi : IsOb r b Cl m) (hr : r ∈ W.L) (ho : Ev W ta tRf b) (h : Ea W ar gs) (hA : A z = tRf.is b :: gs) (hp : pre z) (fl : ∀ σ, Flies W σ CE (flds z) E)
    (hC : (C z).Sublist W.L := by first | exact List.nil_sublist _ | exact List.Sublist.refl _ | exact List.singleton_sublist.mpr (by simp) | simp) : Evx W (tMeth Cl m (spE C A pre CE flds) [] E ta ar) w (fun _ => False) := fun σ H o Q q => ho σ H o _ fun v0 H0 g0 r0 => by
  obtain rfl : v0 = .ref b := r0
  obtain ⟨dx, fs, h1, h2⟩ := hi _ _ (g0.ok.at_ r hr)
  refine ⟨b, dx, fs, rfl, h1, h2, h σ H0 g0.ok _ fun vs H1 g1 r1 => ?_⟩
  have sub : ∀ a, a ∈ fps (C z) → a ∈ W.S := fun a m => by
    obtain ⟨r, m1, m2⟩ := of_fps m
    exact (g1.ok.own a (mem_fps (hC.subset m1) m2)).1
  refine ⟨W.S, z, g1.ok.al, (fps_sub hC).nodup g1.ok.nod, sub, fun r m => g1.ok.at_ r (hC.subset m), by rw [List.append_nil, hA]; exact ⟨rfl, r1⟩, hp, fun d xs H2 bt al c hd hf => ?_⟩
  exact fl σ d xs H2 (g1.ok.after (fun r m => hC.subset m) bt al c).ok hd hf
/-- `__init__` of an error that keeps its one argument as n -/
def spXi (K : PySem.W.Frag) (C : Addr) (n : Str) : Sp := fun vs H Q _ => ∃ (a : Addr) (v : V), vs = [.ref a, v] ∧ OexC K C ∧ PySem.W.findIn K (.ref C) n = some none ∧ H a = some (exo a C none) ∧ ∀ dx, H dx = none → dx ≠ a → Q .non (upd (upd H dx (exd dx [(n, v)])) a (exo a C (some dx)))
/-- raise C(e) -/
theorem go_raise {C : Addr} {n : Str} {WW : WX} (T : OexC K C) (hn : PySem.W.findIn K (.ref C) n = some none) (h : Ev W ta t x) (fl : ∀ σ, Flies W σ C [(n, t.is x)] (fun c d H => WW c d σ H)) : Go W (fun _ σ H => tMkO C (spXi K C n) [] (tCons ta tNil) σ H fun cls d H' => WW cls d σ H') D := fun σ H o => h σ H o _ fun v H1 g r => by
  refine ⟨by show 1 ≤ 1000; decide, fun a na => ⟨a, v, rfl, T, hn, upd_same, fun dx nx ne => ⟨rfl, dx, [(n, v)], upd_same, by rw [upd_ne ne, upd_same], ?_, ?_⟩⟩⟩
  · rw [upd_ne ne] at nx
    exact nx
  · rw [upd_ne ne] at nx
    have e1 : Same H1 (upd (del (upd (upd (upd H1 a (exo a C none)) dx (exd dx [(n, v)])) a (exo a C (some dx))) a) dx (.xd [(n, v)])) := fun b ob hb => by
      have b1 : b ≠ a := fun q => by rw [q, na] at hb; cases hb
      have b2 : b ≠ dx := fun q => by rw [q, nx] at hb; cases hb
      rw [upd_ne b2, del_ne b1, upd_ne b1, upd_ne b2, upd_ne b1]
      exact hb
    refine fl σ dx [(n, v)] _ (g.ok.same e1) upd_same fun m f mm => ?_
    rw [List.mem_singleton] at mm
    obtain ⟨rfl, rfl⟩ := Prod.mk.inj mm
    exact ⟨v, by simp [List.lookup], t.mono (hid_same e1) r⟩
/-- a def that raises -/
theorem ok_E {P : Program} {w : World} {mg : Str → Option Value} {base : Heap} {nm qual : Str} {st : Stmt} {f : Addr} {fd : FuncData} {N ps : List Str} {k : Nat} {C : α → List RS} {A : α → List SF} {pre : α → Prop} {CE : Addr} {flds : α → List (Str × SF)}
    (F : Fun K nm qual st f fd) (S : FnScope N ps (defScope st)) (hl : ∀ x, (A x).length = ps.length)
    (body : ∀ (cdv : Value) (A' : Around) (outer : List Env) (s : Shared) (H0 : Hp) (S : List Addr) (x : α) (Q : VK) (E : XK), Room k (A'.deeper (envOfC qual (defScope st) s.heap.objs.size f cdv)) → pre x → (∀ σ F G, Flies ⟨H0, fps (C x), S, C x, F, G⟩ σ CE (flds x) E) →
      ∃ t, PSs (cxOf (L2.CX P w) P w K mg base N qual (defScope st) f cdv A' outer s H0 E) (defBody st) t ∧ Go ⟨H0, fps (C x), S, C x, [], (A x).map some ++ List.replicate (N.length - ps.length) none⟩ t { nx := fun _ H' => Q .non H', rt := Q }) :
    FnOk P w K mg base (L2.CX P w) (k + 1) f fd ps (spE C A pre CE flds) := by
  refine F.okX S (fun vs H Q E h => ?_) (fun cdv A' outer s H vs Q E hr h => ?_)
  · obtain ⟨S', x, _, _, _, _, ft, _⟩ := h
    rw [ft.length, hl]
  · obtain ⟨S', x, al, nd, sub, cc, ft, hp, out⟩ := h
    obtain ⟨t, h1, h2⟩ := body cdv A' outer s H S' x Q E hr hp fun σ F' G d fs H' o hd hf => out d fs H' o.bt (fun a m => o.al a (sub a m)) o.at_ hd hf
    refine ⟨t, h1, h2 _ _ ⟨nd, fun a m => ⟨sub a m, .inl m⟩, cc, sub, al, Bt.refl, ?_, (fun f m => nomatch m), fun i f' q => ?_⟩⟩
    · have e1 := ft.length
      have e2 := hl x
      show (L2.start N vs).length = _
      unfold L2.start
      simp only [List.length_append, List.length_map, List.length_replicate]
      omega
    · exact start_slots (by rw [ft.length, hl]) ft q
end
end Cs
set_option maxHeartbeats 4000000
namespace Cs
open PySem PySem.Spec PyProof.Rows L2
/-! ### what a thing says -/
/-- at q stands o -/
def Says (r : RS) (q : Addr) (o : HO) : Prop := ∀ F H, r.p F H → H q = some o
/-- at q a list of such values -/
def SaysL (r : RS) (q : Addr) {α : Type} (t : Ty α) (xs : List α) : Prop := ∀ F H, r.p F H → ∃ vs, H q = some (.lst vs) ∧ All2 (t.r F) vs xs
/-- at b an instance of C whose attribute n is at q -/
def SaysF (r : RS) (b C : Addr) (n : Str) (q : Addr) : Prop := ∀ F H, r.p F H → ∃ dx fs, H b = some (.ins C dx fs) ∧ fs.lookup n = some (.ref q)
section
variable {α β γ δ : Type} {W : Wd} {K : PySem.W.Frag} {ta tb tc td ty : TE} {t : Ty α} {u : Ty β} {x x' : α} {y : β} {tt uu : TT} {ar ak : TA} {fs : List SF} {i : Nat} {E : XK} {ts us vs : TS} {D : Ends} {r : RS} {q b C : Addr} {n z : Str} {kvs : List (Key × V)} {xs : List α}
theorem ev_fldR (hr : r ∈ W.L) (hs : SaysF r b C n q) (ho : Ev W ta tRf b) (cl : Cls K C) (na : NoAttr K C n) : Ev W (tFld K ta n) tRf q := fun σ H o Q k => ho σ H o _ fun v0 H0 g0 r0 => by
  obtain rfl : v0 = .ref b := r0
  obtain ⟨dx, fs, h1, h2⟩ := hs _ _ (g0.ok.at_ r hr)
  exact ⟨b, C, dx, fs, .ref q, rfl, h1, cl, na, h2, k _ H0 g0 rfl⟩
theorem et_inR (hr : r ∈ W.L) (hs : Says r q (.dK kvs)) (ha : Ev W ty tSt z) (hd : Ev W td tRf q) : Et W (tB (tDIn ty td)) ((valV kvs (Sum.inr z)).isSome) := fun σ H o Q k =>
  ha σ H o _ fun v H1 g1 r1 => hd σ H1 g1.ok _ fun w H2 g2 r2 => by
    obtain rfl : w = .ref q := r2
    refine ⟨q, valV kvs (Sum.inr z), rfl, ?_, _, rfl, k H2 (g1.trans g2)⟩
    rw [show v = kV (Sum.inr z) from r1]
    exact DGet.k (hs _ _ (g2.ok.at_ r hr))
theorem et_niR (hr : r ∈ W.L) (hs : Says r q (.dK kvs)) (ha : Ev W ty tSt z) (hd : Ev W td tRf q) : Et W (tB (tDNotIn ty td)) (!(valV kvs (Sum.inr z)).isSome) := fun σ H o Q k =>
  ha σ H o _ fun v H1 g1 r1 => hd σ H1 g1.ok _ fun w H2 g2 r2 => by
    obtain rfl : w = .ref q := r2
    refine ⟨q, valV kvs (Sum.inr z), rfl, ?_, _, rfl, k H2 (g1.trans g2)⟩
    rw [show v = kV (Sum.inr z) from r1]
    exact DGet.k (hs _ _ (g2.ok.at_ r hr))
theorem ev_dgetR {p : Addr} (hr : r ∈ W.L) (hs : Says r q (.dK kvs)) (hd : Ev W td tRf q) (ha : Ev W ty tSt z) (e : valV kvs (Sum.inr z) = some (.ref p)) : Ev W (tDGet td ty) tRf p := fun σ H o Q k =>
  hd σ H o _ fun w H1 g1 r1 => ha σ H1 g1.ok _ fun v H2 g2 r2 => by
    obtain rfl : w = .ref q := r1
    refine ⟨q, .ref p, rfl, ?_, k _ H2 (g1.trans g2) rfl⟩
    rw [show v = kV (Sum.inr z) from r2, ← e]
    exact DGet.k (hs _ _ (g2.ok.at_ r hr))
/-- xs[n], xs a list that is the thing's own -/
theorem ev_ixR {m : Int} (hr : r ∈ W.L) (hs : SaysL r q t xs) (ha : Ev W ta tRf q) (hb : Ev W tb tInt m) (e : atI xs m = some x) : Ev W (tOp (rIxL K) ta tb) t x := fun σ H o Q k =>
  ha σ H o _ fun v H1 g1 r1 => hb σ H1 g1.ok _ fun v2 H2 g2 r2 => by
    obtain rfl : v = .ref q := r1
    obtain ⟨vs, h1, al⟩ := hs _ _ (g2.ok.at_ r hr)
    have : ∃ z, atI vs m = some z ∧ t.r (hid W.S H2) z x := by
      unfold atI at e ⊢
      rw [al.length]
      cases c : ixN xs.length m with
      | none => rw [c] at e; cases e
      | some k => rw [c] at e; exact al.get e
    obtain ⟨z, hz, rz⟩ := this
    exact ⟨q, vs, m, z, rfl, r2, SqL.of h1, hz, k z H2 (g1.trans g2) rz⟩
theorem et_truR (hr : r ∈ W.L) (hs : SaysL r q t xs) (ha : Ev W ta tRf q) : Et W (fun σ H Q => ta σ H fun x H' => ∃ k, TruV K x H' k ∧ Q k H') (!xs.isEmpty) := fun σ H o Q k =>
  ha σ H o _ fun v H1 g1 r1 => by
    obtain rfl : v = .ref q := r1
    obtain ⟨vs, h1, al⟩ := hs _ _ (g1.ok.at_ r hr)
    have e : (!xs.isEmpty) = !vs.isEmpty := by
      cases vs <;> cases xs <;> first | rfl | exact al.elim
    exact ⟨!xs.isEmpty, .inl ⟨vs, SqL.of h1, by rw [e]⟩, k H1 g1⟩
theorem ev_lenR (hr : r ∈ W.L) (hs : SaysL r q t xs) (ha : Ev W ta tRf q) : Ev W (tCB (fun xs H Q => ∃ p ys, xs = [.ref p] ∧ (SqL K H p ys ∨ SqT K H p ys) ∧ Q (.int ys.length) H) (tCons ta tNil)) tInt (xs.length : Int) := fun σ H o Q k =>
  ha σ H o _ fun v H1 g1 r1 => by
    obtain rfl : v = .ref q := r1
    obtain ⟨vs, h1, al⟩ := hs _ _ (g1.ok.at_ r hr)
    exact ⟨q, vs, rfl, .inl (SqL.of h1), k _ H1 g1 (by rw [al.length]; rfl)⟩
theorem ev_listR (hr : r ∈ W.L) (hs : SaysL r q t xs) (ha : Ev W ta tRf q) : Ev W (tCB (fun xs H Q => ∃ p ys, xs = [.ref p] ∧ (SqL K H p ys ∨ SqT K H p ys) ∧ ∀ l, H l = none → Q (.ref l) (upd H l (.lst ys))) (tCons ta tNil)) (tLs K t) xs := fun σ H o Q k =>
  ha σ H o _ fun v H1 g1 r1 => by
    obtain rfl : v = .ref q := r1
    obtain ⟨vs, h1, al⟩ := hs _ _ (g1.ok.at_ r hr)
    exact ⟨q, vs, rfl, .inl (SqL.of h1), fun l nl => k _ _ (g1.trans (g1.ok.new nl)) ⟨l, vs, rfl, (by rw [hid_of (g1.ok.off nl)]; exact upd_same), All2.mono (fun _ _ => t.mono (g1.ok.new nl).up) al⟩⟩
/-! ### walks over a list of the thing -/
/-- at q the list of these values, each with what it is -/
def SaysR (r : RS) (q : Addr) {α : Type} (t : Ty α) (vxs : List (V × α)) : Prop := ∀ F H, r.p F H → H q = some (.lst (vxs.map (·.1))) ∧ ∀ p ∈ vxs, t.r F p.1 p.2
theorem all2_tags {α : Type} {rel : V → α → Prop} : ∀ {vxs : List (V × α)}, (∀ p ∈ vxs, rel p.1 p.2) → All2 rel (vxs.map (·.1)) (vxs.map (·.2))
  | [], _ => trivial
  | p :: l, h => ⟨h p (List.mem_cons_self ..), all2_tags fun q m => h q (List.mem_cons_of_mem _ m)⟩
theorem tags_of {α : Type} {rel : V → α → Prop} : ∀ {vs : List V} {xs : List α}, All2 rel vs xs → ∃ vxs : List (V × α), vxs.map (·.1) = vs ∧ vxs.map (·.2) = xs ∧ ∀ p ∈ vxs, rel p.1 p.2
  | [], [], _ => ⟨[], rfl, rfl, fun p m => nomatch m⟩
  | v :: vs, x :: xs, h => by
    obtain ⟨l, h1, h2, h3⟩ := tags_of h.2
    refine ⟨(v, x) :: l, by rw [List.map_cons, h1], by rw [List.map_cons, h2], fun p m => ?_⟩
    rcases List.mem_cons.mp m with m | m
    · rw [m]; exact h.1
    · exact h3 p m
  | [], _ :: _, h => h.elim
  | _ :: _, [], h => h.elim
theorem SaysR.l {vxs : List (V × α)} (h : SaysR r q t vxs) : SaysL r q t (vxs.map (·.2)) := fun F H p => ⟨_, (h F H p).1, all2_tags (h F H p).2⟩
structure WksR {α : Type} (J : It) (r : RS) (t : Ty α) (xs : List α) : Prop where
  ex : ∃ Y, Walk J xs.length (fun H => ∃ S, r.p (hid S H) H) Y ∧ ∀ i H v H' S, i < xs.length → r.p (hid S H) H → (∀ a ∈ S, H a ≠ none) → Y i H v H' → Same H H' ∧ ∃ x, xs[i]? = some x ∧ t.r (hid S H') v x
def IvR {α : Type} (W : Wd) (wi : TI) (r : RS) (t : Ty α) (xs : List α) : Prop := ∀ σ H, Ok W σ H → ∀ R : It → Hp → Prop, (∀ J H1, Go1 W σ H H1 → WksR J r t xs → R J H1) → wi σ H R
theorem ivR_list {vxs : List (V × α)} (hr : r ∈ W.L) (hs : SaysR r q t vxs) (ha : Ev W ta tRf q) : IvR W (iList K ta) r t (vxs.map (·.2)) := fun σ H o R k => ha σ H o _ fun v H1 g1 r1 => by
  obtain rfl : v = .ref q := r1
  have h1 := hs _ _ (g1.ok.at_ r hr)
  refine ⟨q, rfl, ⟨_, SqL.of h1.1⟩, k _ _ g1 ⟨YAt (vxs.map (·.1)), ?_, fun i H v H' S hi z _ ⟨e1, e2⟩ => ?_⟩⟩
  · rw [List.length_map, ← List.length_map (f := fun p : V × α => p.1)]
    exact walk_list.mono (fun H ⟨S, z⟩ => SqL.of (hs _ _ z).1) fun i H v H' _ _ h => h
  · subst e1
    rw [List.getElem?_map] at e2 ⊢
    cases c : vxs[i]? with
    | none => rw [c] at e2; cases e2
    | some p =>
      rw [c] at e2
      obtain rfl : p.1 = v := Option.some.inj e2
      exact ⟨Same.refl _, p.2, rfl, (hs _ _ z).2 p (List.mem_of_getElem? c)⟩
theorem evx_lcR {wi : TI} {g : TG} {as : α → List (Nat × SF)} {P : α → Bool → Prop} {R : α → β → Prop} {vs : List Nat} (hr : r ∈ W.L) (h : IvR W wi r t xs) (tg : Tgt g t as) (hi : ∀ x, ∀ p ∈ as x, p.1 ∈ vs) (hl : xs.length < sizeLine)
    (ht : ∀ D φ F x, (∀ f ∈ W.F, f ∈ F) → x ∈ xs → Etx ((W.el D φ F vs).puts (as x)) tt (P x))
    (he : ∀ D φ F x, (∀ f ∈ W.F, f ∈ F) → x ∈ xs → P x true → Evx ((W.el D φ F vs).puts (as x)) tb u (R x)) (hp : ∀ (W : Wd) x, (W.puts (as x)).H0 = W.H0 ∧ (W.puts (as x)).M = W.M ∧ (W.puts (as x)).S = W.S ∧ (W.puts (as x)).L = W.L ∧ (W.puts (as x)).F = W.F := by intros; exact ⟨rfl, rfl, rfl, rfl, rfl⟩) :
    Evx W (tLc wi g tt tb vs) (tLs K u) (LcR P R xs) := fun σ H o Q q => by
  refine h σ H o _ fun J H1 g1 wk => ?_
  intro D nD
  obtain ⟨Y, wY, hY⟩ := wk.ex
  let Wk : List β → Wd := fun ys => ⟨W.H0, W.M, D :: W.S, cell D (cLs u ys) :: W.L, ffS (hid W.S H1) :: W.F, W.G⟩
  have start : Ok (Wk []) σ (upd H1 D (.lst [])) := by
    obtain ⟨o1, up⟩ := g1.ok.cell (ψ := cLs u ([] : List β)) nD ⟨[], rfl, trivial⟩
    exact Ok.know o1 (f := ffS (hid W.S H1)) up
  have ff : ∀ ys H, Ok (Wk ys) σ H → r.p (hid (D :: W.S) H) H := fun ys H o => o.at_ r (List.mem_cons_of_mem _ hr)
  refine lc_it wY (fun k H' => ∃ ys, LcR P R (xs.take k) ys ∧ Ok (Wk ys) σ H') ⟨[], .nil, start⟩ (fun k H' _ ⟨ys, _, o'⟩ => ⟨_, ff ys H' o'⟩) ?_ ?_
  · rintro k v H0' H' hk ⟨ys, rel, o'⟩ y
    obtain ⟨e, x, hx, rx⟩ := hY k H0' v H' _ hk (ff ys H0' o') o'.al y
    have o' := o'.same e
    have xm := List.mem_of_getElem? hx
    have sub : ∀ q ∈ W.F, q ∈ ffS (hid W.S H1) :: W.F := fun q m => List.mem_cons_of_mem _ m
    refine tg _ _ H' v x (Ok.wipe (vs := vs) o') rx _ fun σ' oe ew => ?_
    refine ⟨by rw [ew vs (hi x), wipe_twice], ?_⟩
    have back : ∀ H2, Go1 (((W.el D (cLs u ys) (ffS (hid W.S H1) :: W.F) vs).puts (as x))) σ' H' H2 → Ok (Wk ys) σ H2 := fun H2 g2 => by
      obtain ⟨p1, p2, p3, p4, p5⟩ := hp (W.el D (cLs u ys) (ffS (hid W.S H1) :: W.F) vs) x
      have o2 := g2.ok
      have up := g2.up
      rw [p3] at up
      have o3 : Ok { Wk ys with G := ((W.el D (cLs u ys) (ffS (hid W.S H1) :: W.F) vs).puts (as x)).G } σ' H2 := by
        have : ((W.el D (cLs u ys) (ffS (hid W.S H1) :: W.F) vs).puts (as x)) = { Wk ys with G := ((W.el D (cLs u ys) (ffS (hid W.S H1) :: W.F) vs).puts (as x)).G } := by
          generalize ((W.el D (cLs u ys) (ffS (hid W.S H1) :: W.F) vs).puts (as x)) = Z at p1 p2 p3 p4 p5 ⊢
          cases Z
          cases p1; cases p2; cases p3; cases p4; cases p5
          rfl
        rw [← this]
        exact o2
      exact Ok.swap (W := Wk ys) o' o3 up
    refine ht D _ _ x sub xm _ _ oe _ fun b H2 pb g2 => ?_
    cases b with
    | false =>
      refine iteF ⟨ys, ?_, back H2 g2⟩
      rw [take_snoc hx]
      exact .skip rel pb
    | true =>
      refine iteT ?_
      refine he D _ _ x sub xm pb _ _ g2.ok _ fun w z H3 pz g3 rz => ?_
      have o3 := back H3 (g2.trans g3)
      obtain ⟨ob, hob, us', rfl, hus⟩ := o3.at_ _ (List.mem_cons_self ..)
      refine ⟨us', hob, ?_, ys ++ [z], ?_, ?_⟩
      · rw [hus.length]
        refine Nat.lt_of_le_of_lt (Nat.le_trans rel.len ?_) hl
        rw [List.length_take]
        omega
      · rw [take_snoc hx]
        exact .take rel pb pz
      · rw [(hp (W.el D (cLs u ys) (ffS (hid W.S H1) :: W.F) vs) x).2.2.1] at rz
        exact (o3.write (ψ := cLs u (ys ++ [z])) (o := .lst (us' ++ [w])) rfl ⟨_, rfl, hus.app (ws := [w]) (ys := [z]) ⟨rz, trivial⟩⟩).ok
  · rintro H' ⟨ys, rel, o2⟩
    rw [List.take_length] at rel
    obtain ⟨ob, hob, us', rfl, hus⟩ := o2.at_ _ (List.mem_cons_self ..)
    have up := o2.facts (ffS (hid W.S H1)) (List.mem_cons_self ..)
    have less : Same (hid (D :: W.S) H') (hid W.S H') := hid_less fun a h => List.mem_cons_of_mem _ h
    have o3 := Ok.drop (N := [D]) o2 (ok_sub g1.ok) g1.ok.ms
    have o4 : Ok W σ H' := ⟨o3.nod, o3.own, o3.at_, o3.ms, o3.al, o3.bt, o3.len, fun f m => o3.facts f (List.mem_cons_of_mem _ m), o3.slots⟩
    refine q _ ys _ rel (g1.trans ⟨o4, up.trans less⟩) ⟨D, us', rfl, ?_, All2.mono (fun _ _ => u.mono less) hus⟩
    rw [hid_of (g1.ok.off nD)]
    exact hob
theorem ev_lcfR {wi : TI} {g : TG} {as : α → List (Nat × SF)} {p : α → Bool} {f : α → β} {vs : List Nat} (hr : r ∈ W.L) (h : IvR W wi r t xs) (tg : Tgt g t as) (hi : ∀ x, ∀ p ∈ as x, p.1 ∈ vs) (hl : xs.length < sizeLine)
    (ht : ∀ D φ F x, (∀ f ∈ W.F, f ∈ F) → x ∈ xs → Et ((W.el D φ F vs).puts (as x)) tt (p x))
    (he : ∀ D φ F x, (∀ f ∈ W.F, f ∈ F) → x ∈ xs → p x = true → Ev ((W.el D φ F vs).puts (as x)) tb u (f x)) (hp : ∀ (W : Wd) x, (W.puts (as x)).H0 = W.H0 ∧ (W.puts (as x)).M = W.M ∧ (W.puts (as x)).S = W.S ∧ (W.puts (as x)).L = W.L ∧ (W.puts (as x)).F = W.F := by intros; exact ⟨rfl, rfl, rfl, rfl, rfl⟩) :
    Ev W (tLc wi g tt tb vs) (tLs K u) ((xs.filter p).map f) := fun σ H o Q q =>
  evx_lcR (P := fun x b => b = p x) (R := fun x y => y = f x) hr h tg hi hl (fun D φ F x hF hx => (ht D φ F x hF hx).toX rfl) (fun D φ F x hF hx e => (he D φ F x hF hx e.symm).x rfl) hp σ H o Q fun v ys H' r g1 rr => q v H' g1 (r.det ▸ rr)
theorem ev_lcmR {wi : TI} {g : TG} {as : α → List (Nat × SF)} {f : α → β} {vs : List Nat} (hr : r ∈ W.L) (h : IvR W wi r t xs) (tg : Tgt g t as) (hi : ∀ x, ∀ p ∈ as x, p.1 ∈ vs) (hl : xs.length < sizeLine)
    (he : ∀ D φ F x, (∀ f ∈ W.F, f ∈ F) → x ∈ xs → Ev ((W.el D φ F vs).puts (as x)) tb u (f x)) (hp : ∀ (W : Wd) x, (W.puts (as x)).H0 = W.H0 ∧ (W.puts (as x)).M = W.M ∧ (W.puts (as x)).S = W.S ∧ (W.puts (as x)).L = W.L ∧ (W.puts (as x)).F = W.F := by intros; exact ⟨rfl, rfl, rfl, rfl, rfl⟩) :
    Ev W (tLc wi g tYes tb vs) (tLs K u) (xs.map f) :=
  ev_is (ev_lcfR (p := fun _ => true) hr h tg hi hl (fun _ _ _ _ _ _ => et_yes) (fun D φ F x hF hx _ => he D φ F x hF hx) hp) (by rw [filter_yes])
theorem all2_str (H : Hp) : ∀ ns : List Str, All2 (tSt.r H) (ns.map V.str) ns
  | [] => trivial
  | _ :: ns => ⟨rfl, all2_str H ns⟩
/-- list(d) -/
theorem ev_listD (hr : r ∈ W.L) (hs : Says r q (.dK kvs)) (ha : Ev W ta tRf q) {ns : List Str} (e : kvs.map (·.1) = ns.map Sum.inr) : Ev W (tCB (fun xs H Q => ∃ (a : Addr) (kvs : List (Key × V)), xs = [.ref a] ∧ Rd H a (.dK kvs) ∧ ∀ p, H p = none → Q (.ref p) (upd H p (.lst (kvs.map fun kv => kV kv.1)))) (tCons ta tNil)) (tLs K tSt) ns := fun σ H o Q k =>
  ha σ H o _ fun v H1 g1 r1 => by
    obtain rfl : v = .ref q := r1
    refine ⟨q, kvs, rfl, .inl (hs _ _ (g1.ok.at_ r hr)), fun l nl => k _ _ (g1.trans (g1.ok.new nl)) ⟨l, _, rfl, (by rw [hid_of (g1.ok.off nl)]; exact upd_same), ?_⟩⟩
    have e2 : (kvs.map fun kv => kV kv.1) = ns.map V.str := by
      have := congrArg (List.map kV) e
      rw [List.map_map, List.map_map] at this
      exact this
    rw [e2]
    exact all2_str _ ns
end
section
variable {X : Cx} {K : PySem.W.Frag}
theorem call_list_ofK (hk : X.K = K) : CallR X (.type "list") (fun xs H Q => ∃ p ys, xs = [.ref p] ∧ (SqL K H p ys ∨ SqT K H p ys) ∧ ∀ l, H l = none → Q (.ref l) (upd H l (.lst ys))) := hk ▸ call_list_of
end
end Cs
set_option maxHeartbeats 4000000
namespace Cs
open PySem PySem.Spec PyProof.Rows L2
/-! ### the other deck: the script's list, the next cell, what is left of a cell, the state, how many draws are left -/
def StO (l : Addr) (b c e g : Int) : HO := .lst [.ref l, .int b, .int c, .int e, .int g]
def StA (K : PySem.W.Frag) (H : Hp) (d l : Addr) (ns : List Int) : Prop := ∃ b c e g : Int, H d = some (StO l b c e g) ∧ SqL K H l (ns.map V.int) ∧ l ≠ d ∧ 0 ≤ b
theorem stA_of {K : PySem.W.Frag} {H H1 : Hp} {d l : Addr} {ns : List Int} {b c e g : Int} (hl : SqL K H l (ns.map V.int)) (ne : l ≠ d) (hb : But d H H1) (h : H1 d = some (StO l b c e g)) (b0 : 0 ≤ b) : StA K H1 d l ns := ⟨b, c, e, g, h, hb.seq ne hl, ne, b0⟩
def spStateA (K : PySem.W.Frag) : Sp := fun vs H Q _ => ∃ (a : Addr) (ns : List Int), vs = [.ref a] ∧ SqL K H a (ns.map V.int) ∧ ∀ d l H', Same H H' → H d = none → H l = none → StA K H' d l ns → Q (.ref d) H'
def spDrawSA (K : PySem.W.Frag) : Sp := fun vs H Q _ => ∃ (d : Addr) (m : Int) (l : Addr) (ns : List Int), vs = [.ref d, .int m] ∧ 0 < m ∧ m.natAbs < 2 ^ 8000 ∧ StA K H d l ns ∧ ∀ v H', 0 ≤ v → v < m → But d H H' → StA K H' d l ns → Q (.int v) H'
def cSt (K : PySem.W.Frag) (d l : Addr) (ns : List Int) : CF := ⟨fun F o => ∃ b c e g, o = StO l b c e g ∧ SqL K F l (ns.map V.int) ∧ l ≠ d ∧ 0 ≤ b, fun e ⟨b, c, f, g, h, z, k⟩ => ⟨b, c, f, g, h, e.seq z, k⟩⟩
section
variable {α β γ : Type} {W : Wd} {K : PySem.W.Frag} {ta tb tc : TE} {t : Ty α} {u : Ty β} {x x' : α} {y : β} {tt uu : TT} {ar : TA} {fs : List SF} {i j : Int} {E : XK} {ts us : TS} {D : Ends} {z z' : Str} {g : TG} {as : α → List (Nat × SF)} {wi : TI}
theorem evx_drawS {m : Int} {s : Nat} {d l : Addr} {ns : List Int} (hs : W.G[s]? = some (some (tRf.is d))) (hL : cell d (cSt K d l ns) ∈ W.L) (hm : Ev W ta tInt m) (m0 : 0 < m) (mb : m.natAbs < 2 ^ 8000) :
    Evx W (tCall (spDrawSA K) [] E (tCons (tVar s) (tCons ta tNil))) tInt (fun v => 0 ≤ v ∧ v < m) := fun σ H o Q q => by
  obtain ⟨v, h1, rfl⟩ := o.slots s _ hs
  refine ⟨.ref d, h1, ?_⟩
  refine hm σ H o _ fun v H1 g1 r => ?_
  obtain ⟨ob, hob, b, c, e, gg, rfl, hl, ne, b0⟩ := g1.ok.at_ _ hL
  refine ⟨d, m, l, ns, by rw [show v = .int m from r]; rfl, m0, mb, ⟨b, c, e, gg, hob, hid_sub.seq hl, ne, b0⟩, fun w H2 w0 w1 bt ⟨b', c', e', gg', hob', _, _, b0'⟩ => ?_⟩
  have fd : fps [cell d (cSt K d l ns)] = [d] := rfl
  have bt' : Bt (fps [cell d (cSt K d l ns)]) H1 H2 := fun a o n h => bt a o (fun z => n (by rw [fd, z]; exact List.mem_cons_self ..)) h
  have hd : d ∈ W.S := (g1.ok.own d (mem_fps hL (List.mem_cons_self ..))).1
  have up : Same (hid W.S H1) (hid W.S H2) := bt'.hid (N := []) (fun a m => by rw [fd] at m; rw [List.mem_singleton.mp m]; exact hd) (fun a m => nomatch m)
  have g2 := g1.ok.after (C := [cell d (cSt K d l ns)]) (fun r m => by rw [List.mem_singleton.mp m]; exact hL) bt' (fun a m => by rw [fd] at m; rw [List.mem_singleton.mp m, hob']; simp) (fun r m => by
    rw [List.mem_singleton.mp m]
    exact ⟨_, hob', b', c', e', gg', rfl, up.seq hl, ne, b0'⟩)
  exact q _ w H2 ⟨w0, w1⟩ (g1.trans g2) rfl
/-- state = _law_state(script) -/
theorem go_state {ns : List Int} {s n : Nat} (hs : W.G[s]? = some (some ((tSc K).is ns))) (k : ∀ d l, Go ⟨W.H0, W.M, d :: W.S, cell d (cSt K d l ns) :: W.L, W.F, W.G.set n (some (tRf.is d))⟩ us D) : Go W (tSeq (tAsg (tCall (spStateA K) [] E (tCons (tVar s) tNil)) (gName n)) us) D := fun σ H o => by
  obtain ⟨v, h1, p, rfl, hq⟩ := o.slots s _ hs
  refine ⟨.ref p, h1, p, ns, rfl, ?_, fun d l H' e nd nl ⟨b, c, f, gg, hd, hl, ne, b0⟩ => ?_⟩
  · exact hid_sub.seq hq
  · have o1 := o.same e
    have nl' : l ∉ [d] ++ W.S := fun z => by
      rcases List.mem_cons.mp z with z | z
      · exact ne z
      · exact o.al l z nl
    have e2 : Bt (fps ([] : List RS)) H H' := Bt.of e
    obtain ⟨o2, _⟩ := o.change1 (C := []) (C' := [cell d (cSt K d l ns)]) (R := W.L) (N := [d]) (H' := H') rfl e2 (fun a m => by rw [List.mem_singleton.mp m]; exact ⟨nd, by rw [hd]; simp⟩) (by show [d].Nodup; simp) (fun a m => .inr m) (fun a m => nomatch m) (fun r m => by
      rw [List.mem_singleton.mp m]
      refine ⟨_, hd, b, c, f, gg, rfl, ?_, ne, b0⟩
      rcases hl with (hl | ⟨ob, hl⟩) | hl
      · exact .inl (.inl (by rw [hid_of nl']; exact hl))
      · exact .inl (.inr ⟨ob, by rw [hid_of nl']; exact hl⟩)
      · exact .inr hl)
    exact k d l _ _ (Ok.put (i := n) (f := tRf.is d) o2 rfl)
/-! ### lowest terms -/
def spLow : Sp := fun vs H Q _ => ∃ p q : Int, vs = [.int p, .int q] ∧ 0 < q ∧ p.natAbs < 2 ^ 2400 ∧ q.natAbs < 2 ^ 2400 ∧ ∀ t H', Same H H' → H t = none → H' t = some (nd (Rat.divInt p q)) → Q (.ref t) H'
theorem ev_low {p q : Int} (ha : Ev W ta tInt p) (hb : Ev W tb tInt q) (q0 : 0 < q) (hp : p.natAbs < 2 ^ 2400) (hq : q.natAbs < 2 ^ 2400) : Ev W (tCall spLow [] E (tCons ta (tCons tb tNil))) (tFr K) (Rat.divInt p q) := fun σ H o Q k =>
  ha σ H o _ fun v H1 g1 r1 => hb σ H1 g1.ok _ fun v2 H2 g2 r2 => ⟨p, q, by rw [show v = .int p from r1, show v2 = .int q from r2]; rfl, q0, hp, hq, fun a H3 e na ha =>
    k _ _ ((g1.trans g2).trans (g2.ok.go e)) ⟨a, rfl, SqT.of (by rw [hid_of (g2.ok.off na)]; exact ha)⟩⟩
theorem evx_low {P P' : Int → Prop} (ha : Evx W ta tInt P) (hb : Evx W tb tInt P') (c : ∀ p q, P p → P' q → 0 < q ∧ p.natAbs < 2 ^ 2400 ∧ q.natAbs < 2 ^ 2400) : Evx W (tCall spLow [] E (tCons ta (tCons tb tNil))) (tFr K) (fun r => ∃ p q, P p ∧ P' q ∧ r = Rat.divInt p q) := fun σ H o Q k =>
  ha σ H o _ fun v p H1 pp g1 r1 => hb σ H1 g1.ok _ fun v2 q H2 pq g2 r2 => ⟨p, q, by rw [show v = .int p from r1, show v2 = .int q from r2]; rfl, (c p q pp pq).1, (c p q pp pq).2.1, (c p q pp pq).2.2, fun a H3 e na ha =>
    k _ _ _ ⟨p, q, pp, pq, rfl⟩ ((g1.trans g2).trans (g2.ok.go e)) ⟨a, rfl, SqT.of (by rw [hid_of (g2.ok.off na)]; exact ha)⟩⟩
theorem evx_sub {P P' : Int → Prop} (ha : Evx W ta tInt P) (hb : Evx W tb tInt P') : Evx W (tOp (rI0 fun i j => .int (i - j)) ta tb) tInt (fun s => ∃ i j, P i ∧ P' j ∧ s = i - j) := fun σ H o Q q =>
  ha σ H o _ fun v i H1 p1 g1 r1 => hb σ H1 g1.ok _ fun v2 j H2 p2 g2 r2 => ⟨i, j, r1, r2, q _ _ H2 ⟨i, j, p1, p2, rfl⟩ (g1.trans g2) rfl⟩
end
end Cs
set_option maxHeartbeats 4000000
namespace Cs
open PySem PySem.Spec PyProof.Rows L2
/-! ### list(d.values()) -/
/-- list(d.values()), d a dict -/
def tListVals (td : TE) : TE := fun σ H Q => td σ H fun x H1 => ∃ (a : Addr) (kvs : List (Key × V)), x = .ref a ∧ H1 a = some (.dK kvs) ∧ ∀ q, H1 q = none → Q (.ref q) (upd H1 q (.lst (kvs.map (·.2))))
theorem vals_at : ∀ {kvs : List (Key × V)} {vs : List (Key × Value)} {us : List Value}, KV kvs vs → us.length = vs.length → (∀ (j : Nat) (v : Value), us[j]? = some v → ∃ k : Key, vs[j]? = some (k, v)) → Vals (kvs.map (·.2)) us := fun {kvs vs us} r hl h => by
  have e : us = vs.map (·.2) := by
    refine List.ext_getElem? fun j => ?_
    rw [List.getElem?_map]
    cases c : us[j]? with
    | none =>
      rw [List.getElem?_eq_none_iff] at c
      rw [List.getElem?_eq_none (by omega)]
      rfl
    | some v =>
      obtain ⟨k, hk⟩ := h j v c
      rw [hk]
      rfl
  rw [e]
  clear h hl e
  unfold KV at r
  induction r with
  | nil => exact .nil
  | cons q _ ih => exact .cons q.2 ih
theorem pe_listVals {X : Cx} {o : Expr} {td : TE} {p pos apos mpos : Pos} (hc : X.calm = true) (hg : Gl X "list") (hm : X.mg "list" = none) (hd : PE X o td) (hbase : attributeBase o "values" X.env (eval o X.env) = eval o X.env := by rfl) (hline : (apos.endLine == mpos.line) = true := by rfl)
    (hs : starEach [.Call (.Attribute o "values" apos) [] [] mpos] X.env = (false, eval (.Call (.Attribute o "values" apos) [] [] mpos) X.env) :: starEach [] X.env := by rfl) : PE X (.Call (.Name "list" p) [.Call (.Attribute o "values" apos) [] [] mpos] [] pos) (tListVals td) := by
  refine ⟨fun ps s σ H Q I h => ?_⟩
  refine Call_ (ld_blt I hg hm boot_list (PyProof.Rows.callWith_type1 (args_cons ?_ hs) hs rfl))
  refine wpAny_Call_method (T := "dict") (id := "dict.values") hbase rfl hline F.plainAttrs_dict F.slot_dict_values F.type_dict_values (thn (hd.run ps s σ H _ I h) fun u s1 => ?_)
  rintro ⟨x, H1, I1, rx, a, kvs, rfl, ha, q⟩
  obtain rfl : u = Value.ref a := rx
  obtain ⟨z, lo, vs, rel, dof⟩ := dk_of I1.hok ha
  obtain ⟨ep, dat⟩ := dof.dictAt
  refine ⟨dof.typeIs, dof.mapOf.noDict, ?_⟩
  show wpAny _ _ (callWith mpos (.builtin "dict.values") [.ref a] [] []) _ X.xe s1
  have up : ∀ b ob, s1.heap.get? b = some ob → (s1.heap.push { cls := .type "dict_values", data := .fields #[.ref a] }).get? b = some ob := fun b ob e => Heap.get?_push_of_some _ e
  have I2 : Inv X ps σ H1 { s1 with heap := s1.heap.push { cls := .type "dict_values", data := .fields #[.ref a] } } := I1.kept (t' := s1.toks) up
  refine method_meetsIn F.slot_dict_values F.entry_dict_values rfl (PySem.evalArgs_none ⟨rfl, dof.typeIs, F.args_dict_values_1 _, _, meets_dict_values (mixKind X.prog X.w) a lo, ⟨vs, dof⟩, args_nil ?_⟩)
  refine PySem.W.kdl_call (PySem.W.kdl_values (knd := mixKind X.prog X.w) (r := s1.heap.objs.size) (d := a) (kvs := vs) (ep := ep)) (I1.ok.hd hc) ⟨⟨_, Heap.get?_push_size _ rfl, rfl, rfl⟩, dat.push _⟩ (by rw [← Paired.length rel]; exact z) fun h' tk acc c' hk hD hacc => ?_
  have hv : Vals (kvs.map (·.2)) acc.toList := vals_at rel (by rw [Array.length_toList]; exact hacc.1) fun j v e => hacc.2 j v (by rw [← Array.getElem?_toList]; exact e)
  refine ⟨.ref _, upd H1 _ (.lst (kvs.map (·.2))), I2.laid (t' := tk) hk (Nat.le_refl _) (show ObjOk X.prog X.w _ _ _ (.lst (kvs.map (·.2))) from ⟨by rw [List.length_map]; exact z, acc.toList, c', hv, by rw [Array.toArray_toList]; exact hD⟩), rfl, q _ (I2.hok.fresh (Nat.le_refl _))⟩
end Cs
set_option maxHeartbeats 4000000
namespace Cs
open PySem PySem.Spec PyProof.Rows L2
/-! ### a dict by names, a cell of its own -/
abbrev Tag (α : Type) := Str × V × α
def mapKv {α : Type} (ms : List (Tag α)) : List (Key × V) := ms.map fun m => (Sum.inr m.1, m.2.1)
def cMap {α : Type} (t : Ty α) (ms : List (Tag α)) : CF := ⟨fun F o => o = .dK (mapKv ms) ∧ ∀ m ∈ ms, t.r F m.2.1 m.2.2, fun e ⟨h, g⟩ => ⟨h, fun m mm => t.mono e (g m mm)⟩⟩
def tagOf {α : Type} (ms : List (Tag α)) (z : Str) : Option (Tag α) := ms.find? fun m => decide (m.1 = z)
def putM {α : Type} (ms : List (Tag α)) (z : Str) (v : V) (x : α) : List (Tag α) := if (ms.any fun m => decide (m.1 = z)) = true then ms.map (fun m => if m.1 = z then (m.1, v, x) else m) else ms ++ [(z, v, x)]
section
variable {α β γ δ : Type} {W : Wd} {K : PySem.W.Frag} {ta tb tc td ty tx : TE} {t : Ty α} {u : Ty β} {x x' : α} {y : β} {tt uu : TT} {ar ak : TA} {fs : List SF} {i : Nat} {E : XK} {ts us vs : TS} {D : Ends} {p : Addr} {z : Str} {ms : List (Tag α)}
theorem map_get : ∀ {ms : List (Tag α)} {z : Str}, valV (mapKv ms) (Sum.inr z) = (tagOf ms z).map fun m => m.2.1
  | [], _ => rfl
  | m :: ms, z => by
    have ih := map_get (ms := ms) (z := z)
    unfold valV mapKv tagOf at ih ⊢
    rw [List.map_cons, List.find?_cons, List.find?_cons]
    by_cases q : m.1 = z
    · simp [q]
    · simp only [Sum.inr.injEq, q, decide_false]
      exact ih
theorem map_put {ms : List (Tag α)} {z : Str} {v : V} {x : α} : putK (mapKv ms) (Sum.inr z) v = mapKv (putM ms z v x) := by
  unfold putK putM mapKv
  have e : ((ms.map fun m => ((Sum.inr m.1 : Key), m.2.1)).any fun kv => decide (kv.1 = Sum.inr z)) = ms.any fun m => decide (m.1 = z) := by
    rw [List.any_map]
    congr 1
    funext m
    simp
  rw [e]
  split
  · rw [List.map_map, List.map_map]
    refine List.map_congr_left fun m _ => ?_
    by_cases q : m.1 = z
    · simp [q]
    · simp [q]
  · rw [List.map_append]
    rfl
/-- d = {} -/
theorem go_newM (t : Ty α) (k : ∀ p, p ∉ W.S → Go ⟨W.H0, W.M, p :: W.S, cell p (cMap t []) :: W.L, W.F, W.G.set i (some (tRf.is p))⟩ us D) : Go W (tSeq (tAsg tDNewK (gName i)) us) D := fun σ H o =>
  fun p np => k p (o.off np) _ _ (Ok.put (i := i) (f := tRf.is p) (o.cell (ψ := cMap t []) np ⟨rfl, fun m mm => nomatch mm⟩).1 rfl)
/-- d.get(z, e) -/
theorem ev_getM (hL : cell p (cMap t ms) ∈ W.L) (hd : Ev W td tRf p) (ha : Ev W ty tSt z) (hx : Ev W tx t x) : Ev W (tDGet2 td ty tx) t (((tagOf ms z).map fun m => m.2.2).getD x) := fun σ H o Q k =>
  hd σ H o _ fun w H1 g1 r1 => by
    obtain rfl : w = .ref p := r1
    obtain ⟨o1, ho1, rfl, _⟩ := g1.ok.at_ _ hL
    refine ⟨p, rfl, ?_, ha σ H1 g1.ok _ fun v H2 g2 r2 => hx σ H2 g2.ok _ fun v3 H3 g3 r3 => ?_⟩
    · exact .inl ⟨_, .inl ho1⟩
    · obtain ⟨o3, ho3, rfl, ht⟩ := g3.ok.at_ _ hL
      refine ⟨(tagOf ms z).map fun m => m.2.1, ?_, ?_⟩
      · rw [show v = kV (Sum.inr z) from r2, ← map_get]
        exact DGet.k ho3
      · cases q : tagOf ms z with
        | none =>
          rw [q] at k
          exact k _ H3 ((g1.trans g2).trans g3) r3
        | some m =>
          rw [q] at k
          exact k _ H3 ((g1.trans g2).trans g3) (ht m (List.mem_of_find?_eq_some q))
/-- d[z] = e -/
theorem go_putM {s : Nat} {R : List RS} {P : α → Prop} (hs : W.G[s]? = some (some (tRf.is p))) (hL : W.L.Perm (cell p (cMap t ms) :: R)) (ha : Ev W ty tSt z) (hb : Evx W tb t P) (hl : ms.length < sizeLine) (k : ∀ v x, P x → ∀ σ H, Ok { W with L := cell p (cMap t (putM ms z v x)) :: R } σ H → D.nx σ H) : Go W (sDPut (tVar s) ty tb) D := fun σ H o =>
  hb σ H o _ fun v x H1 px g1 r1 => by
    obtain ⟨w, h1, rfl⟩ := g1.ok.slots s _ hs
    refine ⟨.ref p, h1, ha σ H1 g1.ok _ fun y H2 g2 ry => ?_⟩
    obtain ⟨ob, hob, rfl, ht⟩ := g2.ok.at_ (cell p (cMap t ms)) (hL.mem_iff.mpr (List.mem_cons_self ..))
    refine ⟨p, upd H2 p (.dK (mapKv (putM ms z v x))), rfl, ?_, k v x px _ _ ((g2.ok.perm hL).write (ψ := cMap t (putM ms z v x)) (o := .dK (mapKv (putM ms z v x))) rfl ⟨rfl, fun m mm => ?_⟩).ok⟩
    · rw [show y = kV (Sum.inr z) from ry, ← map_put]
      exact DPut.k hob (by unfold mapKv; rw [List.length_map]; exact hl)
    · have r1 := t.mono g2.up r1
      unfold putM at mm
      split at mm
      · obtain ⟨m0, mm0, rfl⟩ := List.mem_map.mp mm
        by_cases q : m0.1 = z
        · rw [if_pos q]; exact r1
        · rw [if_neg q]; exact ht m0 mm0
      · rcases List.mem_append.mp mm with mm | mm
        · exact ht m mm
        · rw [List.mem_singleton.mp mm]; exact r1
/-- list(d.values()) -/
theorem ev_valsM (hL : cell p (cMap t ms) ∈ W.L) (hd : Ev W td tRf p) : Ev W (tListVals td) (tLs K t) (ms.map fun m => m.2.2) := fun σ H o Q k =>
  hd σ H o _ fun w H1 g1 r1 => by
    obtain rfl : w = .ref p := r1
    obtain ⟨o1, ho1, rfl, ht⟩ := g1.ok.at_ _ hL
    refine ⟨p, mapKv ms, rfl, ho1, fun l nl => k _ _ (g1.trans (g1.ok.new nl)) ⟨l, _, rfl, (by rw [hid_of (g1.ok.off nl)]; exact upd_same), All2.mono (fun _ _ => t.mono (g1.ok.new nl).up) ?_⟩⟩
    have e : (mapKv ms).map (·.2) = (ms.map fun m => m.2).map (·.1) := by unfold mapKv; rw [List.map_map, List.map_map]; rfl
    have e2 : (ms.map fun m => m.2.2) = (ms.map fun m => m.2).map (·.2) := by rw [List.map_map]; rfl
    rw [e, e2]
    exact all2_tags fun q mq => by
      obtain ⟨m, mm, rfl⟩ := List.mem_map.mp mq
      exact ht m mm
/-! ### for a, b in d.items() -/
/-- the dict while it is walked -/
def cFz {α : Type} (t : Ty α) (od : Obj) (ms : List (Tag α)) : CF := ⟨fun F o => o = .frz od (.dK (mapKv ms)) ∧ ∀ m ∈ ms, t.r F m.2.1 m.2.2, fun e ⟨h, g⟩ => ⟨h, fun m mm => t.mono e (g m mm)⟩⟩
theorem wks_items {p : Addr} {od : Obj} {ms : List (Tag α)} : WksR (Iti p od (mapKv ms)) (cell p (cFz t od ms)) (tPr K tSt t) (ms.map fun m => (m.1, m.2.2)) := ⟨fun i H x H' => ∃ T k v, (mapKv ms)[i]? = some (k, v) ∧ x = .ref T ∧ H T = none ∧ H' = upd H T (.tup [kV k, v]), by
    rw [List.length_map, ← List.length_map (f := fun m : Tag α => ((Sum.inr m.1 : Key), m.2.1))]
    refine ⟨fun i H hi ⟨S, o, ho, e, _⟩ => ⟨by rw [← e]; exact ho, hi⟩, fun H ⟨S, o, ho, e, _⟩ => ⟨by rw [← e]; exact ho, Nat.le_refl _⟩, fun i H x H' _ _ y => y⟩, by
    rintro i H v H' S hi ⟨o, ho, rfl, ht⟩ al ⟨T, k, w, h1, rfl, nT, rfl⟩
    unfold mapKv at h1
    rw [List.getElem?_map] at h1
    rw [List.getElem?_map]
    cases c : ms[i]? with
    | none => rw [c] at h1; cases h1
    | some m =>
      rw [c] at h1
      obtain ⟨rfl, rfl⟩ := Prod.mk.inj (Option.some.inj h1)
      have off : T ∉ S := fun z => al T z nT
      have up : Same (hid S H) (hid S (upd H T (.tup [kV (Sum.inr m.1), m.2.1]))) := hid_same (Same.new nT)
      exact ⟨Same.new nT, _, rfl, T, V.str m.1, m.2.1, rfl, SqT.of (by rw [hid_of off]; exact upd_same), rfl, t.mono up (ht m (List.mem_of_getElem? c))⟩⟩
theorem for_coreR {ι : Type} {xs : List α} {J : It} {r : RS} {g : TG} {as : α → List (Nat × SF)} {σ : L2.St} {H1 : Hp} (wk : WksR J r t xs) (tg : Tgt g t as) (JJ : Nat → ι → Wd) (Pv : Nat → ι → Prop) (hr : ∀ k c, r ∈ (JJ k c).L)
    (start : ∃ c, Pv 0 c ∧ Ok (JJ 0 c) σ H1)
    (hs : ∀ k c x, xs[k]? = some x → Pv k c → Go ((JJ k c).puts (as x)) ts { D with nx := fun σ H => ∃ c', Pv (k + 1) c' ∧ Ok (JJ (k + 1) c') σ H, ct := fun σ H => ∃ c', Pv (k + 1) c' ∧ Ok (JJ (k + 1) c') σ H, bk := D.nx })
    (hd : ∀ c, Pv xs.length c → ∀ σ H, Ok (JJ xs.length c) σ H → D.nx σ H) :
    ∃ Wm : Nat → Nat → L2.St → Hp → Prop, (∃ m, Wm 0 m σ H1) ∧ ∀ i m σ H, Wm i m σ H →
      (J.stop i H ∧ D.nx σ H) ∨ (J.go i H ∧ ∃ N : L2.St → Hp → Prop, (∀ σ' H', N σ' H' → ∃ m', m' < m ∧ Wm (i + 1) m' σ' H') ∧ ∀ x H', J.yld i H x H' → g x σ H' fun σ2 H2 => ts { D with nx := N, ct := N, bk := D.nx } σ2 H2) := by
  obtain ⟨Y, wY, hY⟩ := wk.ex
  have ff : ∀ k c σ H, Ok (JJ k c) σ H → r.p (hid (JJ k c).S H) H := fun k c σ H o => o.at_ r (hr k c)
  refine for_it wY (fun k σ H => ∃ c, Pv k c ∧ Ok (JJ k c) σ H) start (fun k σ H _ ⟨c, _, o⟩ => ⟨_, ff k c σ H o⟩) ?_ ?_
  · rintro k v σ H H' hk ⟨c, pc, o⟩ y
    obtain ⟨e, x, hx, rx⟩ := hY k H v H' _ hk (ff k c σ H o) o.al y
    exact tg _ σ H' v x (o.same e) rx _ fun σ' o' _ => hs k c x hx pc σ' H' o'
  · rintro σ H ⟨c, pc, o⟩
    exact hd c pc σ H o
theorem go_itemsM {ι : Type} {s i j : Nat} {p : Addr} {ms : List (Tag α)} {R : List RS} (hs : W.G[s]? = some (some (tRf.is p))) (hL : W.L.Perm (cell p (cMap t ms) :: R)) (J : Nat → ι → List RS × List (Option SF)) (Pv : Nat → ι → Prop) (c0 : ι) (p0 : Pv 0 c0)
    (w0 : ∀ od, Wk { W with L := cell p (cFz t od ms) :: R } { W with L := cell p (cFz t od ms) :: (J 0 c0).1, G := (J 0 c0).2 })
    (hb : ∀ od k c m (B : L2.St → Hp → Prop) (V' : VK), ms[k]? = some m → Pv k c → Go (Wd.puts ⟨W.H0, W.M, W.S, cell p (cFz t od ms) :: (J k c).1, W.F, (J k c).2⟩ [(i, tSt.is m.1), (j, t.is m.2.2)]) ts
      ⟨fun σ H => ∃ c', Pv (k + 1) c' ∧ Ok ⟨W.H0, W.M, W.S, cell p (cFz t od ms) :: (J (k + 1) c').1, W.F, (J (k + 1) c').2⟩ σ H, V', B, fun σ H => ∃ c', Pv (k + 1) c' ∧ Ok ⟨W.H0, W.M, W.S, cell p (cFz t od ms) :: (J (k + 1) c').1, W.F, (J (k + 1) c').2⟩ σ H⟩)
    (hd : ∀ c, Pv ms.length c → ∀ σ H, Ok ⟨W.H0, W.M, W.S, cell p (cMap t ms) :: (J ms.length c).1, W.F, (J ms.length c).2⟩ σ H → D.nx σ H) :
    Go W (tLock (tFor (iItems (tVar s)) (gTup K 2 (gCons (gName i) (gCons (gName j) gNil))) ts)) D := fun σ H o => by
  obtain ⟨w, h1, rfl⟩ := o.slots s _ hs
  obtain ⟨ob, hob, rfl, ht⟩ := o.at_ (cell p (cMap t ms)) (hL.mem_iff.mpr (List.mem_cons_self ..))
  refine ⟨p, .dK (mapKv ms), hob, trivial, fun od => ?_⟩
  have o1 := ((o.perm hL).write (ψ := cFz t od ms) (o := .frz od (.dK (mapKv ms))) rfl ⟨rfl, ht⟩).ok
  have o2 := w0 od _ _ o1
  refine ⟨.ref p, h1, p, od, mapKv ms, rfl, upd_same, ?_⟩
  refine for_coreR (wks_items (t := t)) tgt_pair (fun k c => ⟨W.H0, W.M, W.S, cell p (cFz t od ms) :: (J k c).1, W.F, (J k c).2⟩) Pv (fun _ _ => List.mem_cons_self ..) ⟨c0, p0, o2⟩ (fun k c x hx pc => ?_) (fun c pc σ' H' o' => ?_)
  · rw [List.getElem?_map] at hx
    cases q : ms[k]? with
    | none => rw [q] at hx; cases hx
    | some m =>
      rw [q] at hx
      obtain rfl : (m.1, m.2.2) = x := Option.some.inj hx
      exact hb od k c m _ _ q pc
  · rw [List.length_map] at pc o'
    obtain ⟨ob', hob', rfl, ht'⟩ := o'.at_ (cell p (cFz t od ms)) (List.mem_cons_self ..)
    exact ⟨hob', hd c pc _ _ (o'.write (ψ := cMap t ms) (o := .dK (mapKv ms)) rfl ⟨rfl, ht'⟩).ok⟩
/-! ### a list of the thing grows -/
theorem go_appR {to te : TE} {r : RS} {r' : V → RS} {q : Addr} {R : List RS} {vxs : List (V × α)} {nx : L2.St → Hp → Prop} (hL : W.L.Perm (r :: R)) (ho : Ev W to tRf q) (hs : SaysR r q t vxs) (ha : Ev W te t x) (hl : vxs.length < sizeLine) (fp : ∀ v, (r' v).fp = r.fp) (hq : q ∈ r.fp)
    (up : ∀ v F H, r.fp.Nodup → r.p F H → t.r F v x → (r' v).p F (upd H q (.lst (vxs.map (·.1) ++ [v])))) (hD : D.nx = nx) (k : ∀ v σ H, Ok { W with L := r' v :: R } σ H → nx σ H) : Go W (tDrop (tBM K "list" rAppend to (tCons te tNil))) D := fun σ H o => ho σ H o _ fun w H1 g1 r1 => by
  obtain rfl : w = .ref q := r1
  have mem : r ∈ W.L := hL.mem_iff.mpr (List.mem_cons_self ..)
  refine ⟨.inl ⟨rfl, _, SqL.of (hs _ _ (g1.ok.at_ r mem)).1⟩, ha σ H1 g1.ok _ fun v H2 g2 r2 => ?_⟩
  have rd := g2.ok.at_ r mem
  refine ⟨q, _, v, rfl, rfl, (hs _ _ rd).1, by rw [List.length_map]; exact hl, ?_⟩
  have o2 := g2.ok.perm hL
  have fc : fps [r] = r.fp := List.append_nil _
  have fc' : fps [r' v] = r.fp := by rw [← fp v]; exact List.append_nil _
  have qS : q ∈ W.S := (g2.ok.own q (mem_fps mem hq)).1
  have eh : hid W.S (upd H2 q (.lst (vxs.map (·.1) ++ [v]))) = hid W.S H2 := hid_upd qS
  have o3 := (o2.change1 (C := [r]) (C' := [r' v]) (R := R) (N := []) (H' := upd H2 q (.lst (vxs.map (·.1) ++ [v]))) rfl (fun b ob nb hb => ?_) (fun a m => nomatch m) ?_ (fun a m => .inl (by rw [fc]; rw [fc'] at m; exact m)) (fun a m => ?_) (fun r0 m => ?_)).1
  · show D.nx σ _
    rw [hD]
    exact k v σ _ o3
  · rw [upd_ne (fun e => nb (by rw [e, fc]; exact hq))]
    exact hb
  · rw [fc', ← fc]
    exact (nodup_app.mp (show (fps ([r] ++ R)).Nodup from o2.nod)).1
  · by_cases e : a = q
    · rw [e, upd_same]; simp
    · rw [upd_ne e]
      rw [fc] at m
      exact g2.ok.al a (g2.ok.own a (mem_fps mem m)).1
  · rw [List.mem_singleton.mp m]
    show (r' v).p (hid W.S (upd H2 q (.lst (vxs.map (·.1) ++ [v])))) (upd H2 q (.lst (vxs.map (·.1) ++ [v])))
    rw [eh]
    exact up v _ _ (by rw [← fc]; exact (nodup_app.mp (show (fps ([r] ++ R)).Nodup from o2.nod)).1) rd r2
end
end Cs
set_option maxHeartbeats 4000000
namespace Cs
open PySem PySem.Spec PyProof.Rows L2
section
variable {α β γ δ : Type} {W : Wd} {K : PySem.W.Frag} {ta tb tc td ty tx : TE} {t : Ty α} {u : Ty β} {x x' : α} {y : β} {tt uu : TT} {ar ak : TA} {fs : List SF} {i : Nat} {E : XK} {ts us vs : TS} {D : Ends} {g : TG} {as : α → List (Nat × SF)} {wi : TI} {xs : List α}
/-- xs[:n], n drawn -/
theorem evx_take {P : Int → Prop} (h : Ev W ta (tLs K t) xs) (hb : Evx W tb tInt P) (h0 : ∀ n, P n → 0 ≤ n) : Evx W (tSl (rSlL K) ta tNoPart (tPart tb)) (tLs K t) (fun ys => ∃ n, P n ∧ ys = xs.take n.toNat) := fun σ H o Q q =>
  h σ H o _ fun v H1 g1 r1 => hb σ H1 g1.ok _ fun v2 n H2 pn g2 r2 => by
    obtain ⟨p, vs, rfl, s, al⟩ := (tLs K t).mono g2.up r1
    refine ⟨n, r2, p, vs, rfl, SqL.of (hid_sub _ _ s), fun l nl => q _ (xs.take n.toNat) _ ⟨n, pn, rfl⟩ ((g1.trans g2).trans (g2.ok.new nl)) ⟨l, vs.take n.toNat, rfl, ?_, All2.mono (fun _ _ => t.mono (g2.ok.new nl).up) (al.take _)⟩⟩
    rw [hid_of (g2.ok.off nl), upd_same]
    have e : cutV vs none (some n) = vs.take n.toNat := by
      have := h0 n pn
      unfold cutV HT.sIx
      simp only [List.drop_zero, Nat.sub_zero]
      rw [if_neg (by omega)]
      rcases Nat.le_total n.toNat vs.length with z | z
      · rw [Nat.min_eq_left z]
      · rw [Nat.min_eq_right z, List.take_length, List.take_of_length_le z]
    rw [e]
/-- a for whose things come with new addresses -/
theorem go_forS {ι : Type} (h : Iv W wi t xs) (tg : Tgt g t as) (J : Nat → ι → List Addr × List RS × List (Option SF)) (Pv : Nat → ι → Prop) (c0 : ι) (p0 : Pv 0 c0) (s0 : (J 0 c0).1 = W.S) (w0 : Wk W { W with L := (J 0 c0).2.1, G := (J 0 c0).2.2 })
    (hs : ∀ k c x (f : FF), xs[k]? = some x → Pv k c → Go (Wd.puts ⟨W.H0, W.M, (J k c).1, (J k c).2.1, f :: W.F, (J k c).2.2⟩ (as x)) ts
      { D with nx := fun σ H => ∃ c', Pv (k + 1) c' ∧ Ok ⟨W.H0, W.M, (J (k + 1) c').1, (J (k + 1) c').2.1, f :: W.F, (J (k + 1) c').2.2⟩ σ H, ct := fun σ H => ∃ c', Pv (k + 1) c' ∧ Ok ⟨W.H0, W.M, (J (k + 1) c').1, (J (k + 1) c').2.1, f :: W.F, (J (k + 1) c').2.2⟩ σ H, bk := D.nx })
    (hd : ∀ c, Pv xs.length c → ∀ σ H, Ok ⟨W.H0, W.M, (J xs.length c).1, (J xs.length c).2.1, W.F, (J xs.length c).2.2⟩ σ H → D.nx σ H) :
    Go W (tFor wi g ts) D := fun σ H o => h σ H o _ fun Ji H1 f g1 fp wk =>
  for_core wk tg (fun k c => ⟨W.H0, W.M, (J k c).1, (J k c).2.1, f :: W.F, (J k c).2.2⟩) Pv (fun _ _ => rfl) ⟨c0, p0, by rw [s0]; exact Ok.know (w0 _ _ g1.ok) fp⟩ (fun k c x hx pc => hs k c x f hx pc) fun c pc σ' H' o' => hd c pc σ' H'
    ⟨o'.nod, o'.own, o'.at_, o'.ms, o'.al, o'.bt, o'.len, fun q m => o'.facts q (List.mem_cons_of_mem _ m), o'.slots⟩
/-- the empty list is of every kind -/
theorem nil_to {H : Hp} {v : V} (h : (tLs K t).r H v []) : (tLs K u).r H v [] := by
  obtain ⟨p, vs, e, s, al⟩ := h
  cases vs with
  | nil => exact ⟨p, [], e, s, trivial⟩
  | cons _ _ => exact al.elim
theorem ev_nilTo (h : Ev W ta (tLs K t) []) : Ev W ta (tLs K u) [] := ev_to h fun _ _ r => nil_to r
/-- a thing is no longer looked at -/
theorem ok_less {H0 : Hp} {M S : List Addr} {r : RS} {R : List RS} {F : List FF} {G : List (Option SF)} {σ : L2.St} {H : Hp} (o : Ok ⟨H0, M, S, r :: R, F, G⟩ σ H) : Ok ⟨H0, M, S, R, F, G⟩ σ H :=
  ⟨(nodup_app.mp (show (fps ([r] ++ R)).Nodup from o.nod)).2.1, fun a m => o.own a (by obtain ⟨q, m1, m2⟩ := of_fps m; exact mem_fps (List.mem_cons_of_mem _ m1) m2), fun q m => o.at_ q (List.mem_cons_of_mem _ m), o.ms, o.al, o.bt, o.len, o.facts, o.slots⟩
def cAny : CF := ⟨fun _ _ => True, fun _ h => h⟩
/-- o.m().append(e): the list was given as a thing of its own; behind it nobody looks at it -/
theorem go_appG {to te : TE} {P : Addr → Wd → Prop} {nx : L2.St → Hp → Prop} (h : Evm W to tRf P) (hD : D.nx = nx) (k : ∀ q W', P q W' → ∃ (δ : Type) (tt : Ty δ) (ys : List δ) (R : List RS), W'.L.Perm (cell q (cLs tt ys) :: R) ∧ ys.length < sizeLine ∧ Ev W' te t x ∧ ∀ σ H, Ok { W' with L := R } σ H → nx σ H) : Go W (tDrop (tBM K "list" rAppend to (tCons te tNil))) D := fun σ H o => h σ H o _ fun v q W' H1 p o1 r1 => by
  obtain rfl : v = .ref q := r1
  obtain ⟨δ, tt, ys, R, hL, hl, he, hk⟩ := k q W' p
  have mem : cell q (cLs tt ys) ∈ W'.L := hL.mem_iff.mpr (List.mem_cons_self ..)
  obtain ⟨ob, hob, vs, rfl, _⟩ := o1.at_ _ mem
  refine ⟨.inl ⟨rfl, vs, SqL.of hob⟩, he σ H1 o1 _ fun w H2 g2 r2 => ?_⟩
  obtain ⟨ob, hob, ws, rfl, al⟩ := g2.ok.at_ _ mem
  refine ⟨q, ws, w, rfl, rfl, hob, by rw [al.length]; exact hl, ?_⟩
  rw [hD]
  exact hk _ _ (ok_less ((g2.ok.perm hL).write (ψ := cAny) (o := .lst (ws ++ [w])) rfl trivial).ok)
theorem go_forSx {ι : Type} {X : List α → Prop} (h : Ivx W wi t X) (tg : Tgt g t as) (J : Nat → ι → List Addr × List RS × List (Option SF)) (Pv : Nat → ι → Prop) (c0 : ι) (p0 : Pv 0 c0) (s0 : (J 0 c0).1 = W.S) (w0 : Wk W { W with L := (J 0 c0).2.1, G := (J 0 c0).2.2 })
    (hs : ∀ xs k c x (f : FF), X xs → xs[k]? = some x → Pv k c → Go (Wd.puts ⟨W.H0, W.M, (J k c).1, (J k c).2.1, f :: W.F, (J k c).2.2⟩ (as x)) ts
      { D with nx := fun σ H => ∃ c', Pv (k + 1) c' ∧ Ok ⟨W.H0, W.M, (J (k + 1) c').1, (J (k + 1) c').2.1, f :: W.F, (J (k + 1) c').2.2⟩ σ H, ct := fun σ H => ∃ c', Pv (k + 1) c' ∧ Ok ⟨W.H0, W.M, (J (k + 1) c').1, (J (k + 1) c').2.1, f :: W.F, (J (k + 1) c').2.2⟩ σ H, bk := D.nx })
    (hd : ∀ xs c, X xs → Pv xs.length c → ∀ σ H, Ok ⟨W.H0, W.M, (J xs.length c).1, (J xs.length c).2.1, W.F, (J xs.length c).2.2⟩ σ H → D.nx σ H) :
    Go W (tFor wi g ts) D := fun σ H o => h σ H o _ fun xs Ji H1 f px g1 fp wk =>
  for_core wk tg (fun k c => ⟨W.H0, W.M, (J k c).1, (J k c).2.1, f :: W.F, (J k c).2.2⟩) Pv (fun _ _ => rfl) ⟨c0, p0, by rw [s0]; exact Ok.know (w0 _ _ g1.ok) fp⟩ (fun k c x hx pc => hs xs k c x f px hx pc) fun c pc σ' H' o' => hd xs c px pc σ' H'
    ⟨o'.nod, o'.own, o'.at_, o'.ms, o'.al, o'.bt, o'.len, fun q m => o'.facts q (List.mem_cons_of_mem _ m), o'.slots⟩
end
/-! ### places in short lists -/
theorem in0 {α : Type} {a : α} {l : List α} : a ∈ a :: l := List.mem_cons_self ..
theorem in1 {α : Type} {a b : α} {l : List α} : a ∈ b :: a :: l := List.mem_cons_of_mem _ in0
theorem in2 {α : Type} {a b c : α} {l : List α} : a ∈ b :: c :: a :: l := List.mem_cons_of_mem _ in1
theorem in3 {α : Type} {a b c d : α} {l : List α} : a ∈ b :: c :: d :: a :: l := List.mem_cons_of_mem _ in2
theorem in4 {α : Type} {a b c d e : α} {l : List α} : a ∈ b :: c :: d :: e :: a :: l := List.mem_cons_of_mem _ in3
theorem in5 {α : Type} {a b c d e f : α} {l : List α} : a ∈ b :: c :: d :: e :: f :: a :: l := List.mem_cons_of_mem _ in4
theorem su0 {α : Type} {a : α} {l : List α} : [a].Sublist (a :: l) := List.singleton_sublist.mpr in0
theorem su1 {α : Type} {a b : α} {l : List α} : [a].Sublist (b :: a :: l) := List.singleton_sublist.mpr in1
theorem su2 {α : Type} {a b c : α} {l : List α} : [a].Sublist (b :: c :: a :: l) := List.singleton_sublist.mpr in2
theorem su3 {α : Type} {a b c d : α} {l : List α} : [a].Sublist (b :: c :: d :: a :: l) := List.singleton_sublist.mpr in3
end Cs
set_option maxHeartbeats 4000000
namespace Cs
open PySem PySem.Spec PyProof.Rows L2
/-! ### calls that raise -/
def CalX (P : Program) (w : World) (K : PySem.W.Frag) (mg : Str → Option Value) (base : Heap) (k : Nat) (x : Str) (ps : List Str) (sp : Sp) : Prop :=
  ∃ (f : Addr) (fd : FuncData), FnOk P w K mg base (L2.CX P w) k f fd ps sp ∧ mg x = some (.ref f) ∧ PySem.W.keepIn K (.ref f) = true ∧ Binds K fd ps []
section
variable {P : Program} {w : World} {K : PySem.W.Frag} {mg : Str → Option Value} {base : Heap} {k j : Nat} {x : Str} {ps : List Str} {sp : Sp} {st : Stmt}
theorem CalX.of (F : FunG K mg x st ps) (h : ∀ {f : Addr} {fd : FuncData}, Fun K x x st f fd → FnOk P w K mg base (L2.CX P w) k f fd ps sp) : CalX P w K mg base k x ps sp := by
  obtain ⟨f, fd, F, g, b⟩ := F
  exact ⟨f, fd, h F, g, F.kp, b⟩
theorem CalX.mono (c : CalX P w K mg base j x ps sp) (h : j ≤ k) : CalX P w K mg base k x ps sp := by
  obtain ⟨f, fd, F, g⟩ := c
  exact ⟨f, fd, F.mono h, g⟩
end
section
variable {X : Cx} {k : Nat} {x : Str} {ps : List Str} {sp : Sp} {p pos : Pos} {e : Expr} {es : List Expr} {t : TA}
theorem pe_calX {E : XK} (c : CalX X.prog X.w X.K X.mg X.base k x ps sp) (hr : Room k X.A) (hg : Gl X x) (hx : Passes (L2.CX X.prog X.w) X E) (ha : PA X (e :: es) t) (hdb : (x == ("__debug__" : Str)) = false := by decide)
    (he : starEach (e :: es) X.env = (false, eval e X.env) :: starEach es X.env := by rfl) (hpl : (backTo pos (starEach es X.env)).any (·.1) = false := by rfl) :
    PE X (.Call (.Name x p) (e :: es) [] pos) (tCall sp [] E t) := by
  obtain ⟨f, fd, F, g, kp, b⟩ := c
  exact pe_call F hr hg g kp b .nil hx ha hdb he hpl
theorem pe_calS {E : L2.St → XK} (c : CalX X.prog X.w X.K X.mg X.base k x ps sp) (hr : Room k X.A) (hg : Gl X x) (hx : ∀ σ, PassesAt (L2.CX X.prog X.w) X σ (E σ)) (ha : PA X (e :: es) t) (hdb : (x == ("__debug__" : Str)) = false := by decide)
    (he : starEach (e :: es) X.env = (false, eval e X.env) :: starEach es X.env := by rfl) (hpl : (backTo pos (starEach es X.env)).any (·.1) = false := by rfl) :
    PE X (.Call (.Name x p) (e :: es) [] pos) (tCallS sp E t) := by
  obtain ⟨f, fd, F, g, kp, b⟩ := c
  exact pe_callS F hr hg g kp b hx ha hdb he hpl
end
section
variable {X : Cx} {k : Nat} {x : Str} {ps : List Str} {sp : Sp} {p pos : Pos}
theorem pe_cal0 (c : Cal X.prog X.w X.K X.mg X.base k x ps sp) (hr : Room k X.A) (hg : Gl X x) (hdb : (x == ("__debug__" : Str)) = false := by decide) : PE X (.Call (.Name x p) [] [] pos) (tCall sp [] E0 tNil) := by
  obtain ⟨f, fd, F, g, kp, b⟩ := c
  exact pe_call0 F hr hg g kp b .nil pass0 hdb
end
/-! ### lists as cells, each item with its value -/
def cTg {α : Type} (t : Ty α) (vxs : List (V × α)) : CF := ⟨fun F o => o = .lst (vxs.map (·.1)) ∧ ∀ p ∈ vxs, t.r F p.1 p.2, fun e ⟨h, g⟩ => ⟨h, fun p m => t.mono e (g p m)⟩⟩
section
variable {α β γ δ : Type} {W : Wd} {K : PySem.W.Frag} {ta tb tc td ty tx : TE} {t : Ty α} {u : Ty β} {x x' : α} {y : β} {tt uu : TT} {ar ak : TA} {fs : List SF} {i : Nat} {E : XK} {ts us vs : TS} {D : Ends} {g : TG} {as : α → List (Nat × SF)} {wi : TI} {xs : List α} {vxs : List (V × α)} {p : Addr}
theorem tg_says : SaysR (cell p (cTg t vxs)) p t vxs := fun F H ⟨o, h, e, g⟩ => ⟨by rw [h, e], g⟩
/-- xs = [], a list that grows -/
theorem go_newT (t : Ty α) (k : ∀ p, p ∉ W.S → Go ⟨W.H0, W.M, p :: W.S, cell p (cTg t []) :: W.L, W.F, W.G.set i (some (tRf.is p))⟩ us D) : Go W (tSeq (tAsg (tLst tNil) (gName i)) us) D := fun σ H o =>
  ⟨Nat.zero_le _, fun p np => k p (o.off np) _ _ (Ok.put (i := i) (f := tRf.is p) (o.cell (ψ := cTg t []) np ⟨rfl, fun p m => nomatch m⟩).1 rfl)⟩
/-- p.append(e) -/
theorem go_app1T {R : List RS} {nx : L2.St → Hp → Prop} (hL : W.L.Perm (cell p (cTg t vxs) :: R)) (ho : Ev W ta tRf p) (ha : Ev W tb t x) (hl : vxs.length < sizeLine) (hD : D.nx = nx) (k : ∀ v σ H, Ok { W with L := cell p (cTg t (vxs ++ [(v, x)])) :: R } σ H → nx σ H) :
    Go W (tDrop (tBM K "list" rAppend ta (tCons tb tNil))) D :=
  go_appR (r := cell p (cTg t vxs)) (r' := fun v => cell p (cTg t (vxs ++ [(v, x)]))) (q := p) hL ho tg_says ha hl (fun v => rfl) (List.mem_cons_self ..) (fun v F H _ ⟨o, h, e, g⟩ hv => ⟨_, upd_same, by rw [List.map_append]; rfl, fun q m => by
    rcases List.mem_append.mp m with m | m
    · exact g q m
    · rw [List.mem_singleton.mp m]; exact hv⟩) hD k
theorem go_appT {R : List RS} (hL : W.L.Perm (cell p (cTg t vxs) :: R)) (ho : Ev W ta tRf p) (ha : Ev W tb t x) (hl : vxs.length < sizeLine) (k : ∀ v, Go { W with L := cell p (cTg t (vxs ++ [(v, x)])) :: R } us D) :
    Go W (tSeq (tDrop (tBM K "list" rAppend ta (tCons tb tNil))) us) D := go_seq (go_app1T hL ho ha hl rfl fun v σ H o => k v σ H o)
/-- a for over a list of a thing -/
theorem go_forR {ι : Type} {r : RS} (h : IvR W wi r t xs) (tg : Tgt g t as) (J : Nat → ι → List Addr × List RS × List (Option SF)) (hJ : ∀ k c, r ∈ (J k c).2.1) (Pv : Nat → ι → Prop) (c0 : ι) (p0 : Pv 0 c0) (s0 : (J 0 c0).1 = W.S) (w0 : Wk W { W with L := (J 0 c0).2.1, G := (J 0 c0).2.2 })
    (hs : ∀ k c x, xs[k]? = some x → Pv k c → Go (Wd.puts ⟨W.H0, W.M, (J k c).1, (J k c).2.1, W.F, (J k c).2.2⟩ (as x)) ts
      { D with nx := fun σ H => ∃ c', Pv (k + 1) c' ∧ Ok ⟨W.H0, W.M, (J (k + 1) c').1, (J (k + 1) c').2.1, W.F, (J (k + 1) c').2.2⟩ σ H, ct := fun σ H => ∃ c', Pv (k + 1) c' ∧ Ok ⟨W.H0, W.M, (J (k + 1) c').1, (J (k + 1) c').2.1, W.F, (J (k + 1) c').2.2⟩ σ H, bk := D.nx })
    (hd : ∀ c, Pv xs.length c → ∀ σ H, Ok ⟨W.H0, W.M, (J xs.length c).1, (J xs.length c).2.1, W.F, (J xs.length c).2.2⟩ σ H → D.nx σ H) :
    Go W (tFor wi g ts) D := fun σ H o => h σ H o _ fun Ji H1 g1 wk =>
  for_coreR wk tg (fun k c => ⟨W.H0, W.M, (J k c).1, (J k c).2.1, W.F, (J k c).2.2⟩) Pv hJ ⟨c0, p0, by rw [s0]; exact w0 _ _ g1.ok⟩ hs hd
/-! ### promises of several kinds -/
theorem FnOk.or {P : Program} {w : World} {mg : Str → Option Value} {base : Heap} {CX : CXT} {k : Nat} {f : Addr} {fd : FuncData} {ps : List Str} {sp sp' : Sp} (F : FnOk P w K mg base CX k f fd ps sp) (G : FnOk P w K mg base CX k f fd ps sp') : FnOk P w K mg base CX k f fd ps (fun vs H Q E => sp vs H Q E ∨ sp' vs H Q E) :=
  ⟨fun vs H Q E h => h.elim (F.len vs H Q E) (G.len vs H Q E), fun A outer s H args us vs Q E hr he hb hv hs => hs.elim (F.run A outer s H args us vs Q E hr he hb hv) (G.run A outer s H args us vs Q E hr he hb hv)⟩
/-- what is promised without errors is promised among errors too -/
theorem FnOk.toX {P : Program} {w : World} {mg : Str → Option Value} {base : Heap} {k : Nat} {f : Addr} {fd : FuncData} {ps : List Str} {sp : Sp} (F : FnOk P w K mg base CX0 k f fd ps sp) : FnOk P w K mg base (L2.CX P w) k f fd ps sp :=
  ⟨F.len, fun A outer s H args us vs Q E hr he hb hv hs => codeAny_mono (F.run A outer s H args us vs Q E hr he hb hv hs) fun r s' h => by
    cases r with
    | error e => exact h.elim
    | ok fl => cases fl <;> exact h⟩
theorem evx_methXI {r : RS} {b Cl : Addr} {m : Str} {sp : Sp} {C : γ → List RS} {A : γ → List SF} {w : Ty β} {pre : γ → Prop} {post : γ → β → Prop} {z : γ} {gs : List SF} {EE : L2.St → XK} (imp : ∀ vs H Q E, spN C A w pre post vs H Q E → sp vs H Q E) (hi : IsOb r b Cl m) (hr : r ∈ W.L) (ho : Ev W ta tRf b) (h : Ea W ar gs) (hA : A z = tRf.is b :: gs) (hp : pre z)
    (hC : (C z).Sublist W.L := by first | exact List.nil_sublist _ | exact List.Sublist.refl _ | exact List.singleton_sublist.mpr (by simp) | simp) : Evx W (tMethX Cl m sp EE ta ar) w (post z) := fun σ H o Q q => ho σ H o _ fun v0 H0 g0 r0 => by
  obtain rfl : v0 = .ref b := r0
  obtain ⟨dx, fs, h1, h2⟩ := hi _ _ (g0.ok.at_ r hr)
  refine ⟨b, dx, fs, rfl, h1, h2, h σ H0 g0.ok _ fun vs H1 g1 r1 => imp _ _ _ _ ?_⟩
  have sub : ∀ a, a ∈ fps (C z) → a ∈ W.S := fun a m => by
    obtain ⟨r, m1, m2⟩ := of_fps m
    exact (g1.ok.own a (mem_fps (hC.subset m1) m2)).1
  refine ⟨W.S, z, g1.ok.al, (fps_sub hC).nodup g1.ok.nod, sub, fun r m => g1.ok.at_ r (hC.subset m), by rw [hA]; exact ⟨rfl, r1⟩, hp, fun v y H2 py bt al c rr => ?_⟩
  exact q v y H2 py ((g0.trans g1).trans (g1.ok.after (fun r m => hC.subset m) bt al c)) rr
theorem evm_methXI {r : RS} {b Cl : Addr} {m : Str} {sp : Sp} {C : γ → List RS} {A : γ → List SF} {w : Ty β} {pre : γ → Prop} {post : γ → β → List RS → Prop} {z : γ} {R : List RS} {gs : List SF} {EE : L2.St → XK} (imp : ∀ vs H Q E, spS C A w pre post vs H Q E → sp vs H Q E) (hi : IsOb r b Cl m) (hr : r ∈ W.L) (ho : Ev W ta tRf b) (h : Ea W ar gs) (hA : A z = tRf.is b :: gs) (hp : pre z) (hL : W.L.Perm (C z ++ R)) :
    Evm W (tMethX Cl m sp EE ta ar) w (fun y => Aft W R (post z y)) := fun σ H o Q q => ho σ H o _ fun v0 H0 g0 r0 => by
  obtain rfl : v0 = .ref b := r0
  obtain ⟨dx, fs, h1, h2⟩ := hi _ _ (g0.ok.at_ r hr)
  refine ⟨b, dx, fs, rfl, h1, h2, h σ H0 g0.ok _ fun vs H1 g1 r1 => imp _ _ _ _ ?_⟩
  have o1 := g1.ok.perm hL
  refine ⟨W.S, z, g1.ok.al, (nodup_app.mp o1.nod).1, fun a m => ?_, fun r m => o1.at_ r (List.mem_append_left _ m), by rw [hA]; exact ⟨rfl, r1⟩, hp, fun v y N C' H2 py b hN nd hC' al rs r => ?_⟩
  · obtain ⟨r, m1, m2⟩ := of_fps m
    exact (o1.own a (mem_fps (List.mem_append_left _ m1) m2)).1
  · exact q v y _ H2 ⟨N, C', py, rfl⟩ (aft_of g1.ok hL b hN nd hC' al rs) r
theorem evx_methEI {r : RS} {b Cl CE : Addr} {m : Str} {sp : Sp} {C : γ → List RS} {A : γ → List SF} {w : Ty β} {pre : γ → Prop} {flds : γ → List (Str × SF)} {z : γ} {gs : List SF} {EE : L2.St → XK} (imp : ∀ vs H Q E, spE C A pre CE flds vs H Q E → sp vs H Q E) (hi : IsOb r b Cl m) (hr : r ∈ W.L) (ho : Ev W ta tRf b) (h : Ea W ar gs) (hA : A z = tRf.is b :: gs) (hp : pre z) (fl : ∀ σ, Flies W σ CE (flds z) (EE σ))
    (hC : (C z).Sublist W.L := by first | exact List.nil_sublist _ | exact List.Sublist.refl _ | exact List.singleton_sublist.mpr (by simp) | simp) : Evx W (tMethX Cl m sp EE ta ar) w (fun _ => False) := fun σ H o Q q => ho σ H o _ fun v0 H0 g0 r0 => by
  obtain rfl : v0 = .ref b := r0
  obtain ⟨dx, fs, h1, h2⟩ := hi _ _ (g0.ok.at_ r hr)
  refine ⟨b, dx, fs, rfl, h1, h2, h σ H0 g0.ok _ fun vs H1 g1 r1 => imp _ _ _ _ ?_⟩
  have sub : ∀ a, a ∈ fps (C z) → a ∈ W.S := fun a m => by
    obtain ⟨r, m1, m2⟩ := of_fps m
    exact (g1.ok.own a (mem_fps (hC.subset m1) m2)).1
  refine ⟨W.S, z, g1.ok.al, (fps_sub hC).nodup g1.ok.nod, sub, fun r m => g1.ok.at_ r (hC.subset m), by rw [hA]; exact ⟨rfl, r1⟩, hp, fun d xs H2 bt al c hd hf => ?_⟩
  exact fl σ d xs H2 (g1.ok.after (fun r m => hC.subset m) bt al c).ok hd hf
/-- calls of defs, by the slots -/
theorem evx_callXI {sp : Sp} {C : γ → List RS} {A : γ → List SF} {w : Ty β} {pre : γ → Prop} {post : γ → β → Prop} {z : γ} {EE : L2.St → XK} (imp : ∀ vs H Q E, spN C A w pre post vs H Q E → sp vs H Q E) (h : Ea W ar (A z)) (hp : pre z)
    (hC : (C z).Sublist W.L := by first | exact List.nil_sublist _ | exact List.Sublist.refl _ | exact List.singleton_sublist.mpr (by simp) | simp) : Evx W (tCallS sp EE ar) w (post z) := fun σ H o Q q => h σ H o _ fun vs H1 g1 r1 => imp _ _ _ _ (by
  have sub : ∀ a, a ∈ fps (C z) → a ∈ W.S := fun a m => by
    obtain ⟨r, m1, m2⟩ := of_fps m
    exact (g1.ok.own a (mem_fps (hC.subset m1) m2)).1
  refine ⟨W.S, z, g1.ok.al, (fps_sub hC).nodup g1.ok.nod, sub, fun r m => g1.ok.at_ r (hC.subset m), r1, hp, fun v y H2 py bt al c rr => ?_⟩
  exact q v y H2 py (g1.trans (g1.ok.after (fun r m => hC.subset m) bt al c)) rr)
theorem evx_callEI {sp : Sp} {CE : Addr} {C : γ → List RS} {A : γ → List SF} {w : Ty β} {pre : γ → Prop} {flds : γ → List (Str × SF)} {z : γ} {EE : L2.St → XK} (imp : ∀ vs H Q E, spE C A pre CE flds vs H Q E → sp vs H Q E) (h : Ea W ar (A z)) (hp : pre z) (fl : ∀ σ, Flies W σ CE (flds z) (EE σ))
    (hC : (C z).Sublist W.L := by first | exact List.nil_sublist _ | exact List.Sublist.refl _ | exact List.singleton_sublist.mpr (by simp) | simp) : Evx W (tCallS sp EE ar) w (fun _ => False) := fun σ H o Q q => h σ H o _ fun vs H1 g1 r1 => imp _ _ _ _ (by
  have sub : ∀ a, a ∈ fps (C z) → a ∈ W.S := fun a m => by
    obtain ⟨r, m1, m2⟩ := of_fps m
    exact (g1.ok.own a (mem_fps (hC.subset m1) m2)).1
  refine ⟨W.S, z, g1.ok.al, (fps_sub hC).nodup g1.ok.nod, sub, fun r m => g1.ok.at_ r (hC.subset m), r1, hp, fun d xs H2 bt al c hd hf => ?_⟩
  exact fl σ d xs H2 (g1.ok.after (fun r m => hC.subset m) bt al c).ok hd hf)
/-- a call that raises inside a def that raises -/
theorem evx_callE0 {CE : Addr} {C : γ → List RS} {A : γ → List SF} {w : Ty β} {pre : γ → Prop} {flds : γ → List (Str × SF)} {z : γ} (h : Ea W ar (A z)) (hp : pre z) (fl : ∀ σ, Flies W σ CE (flds z) E)
    (hC : (C z).Sublist W.L := by first | exact List.nil_sublist _ | exact List.Sublist.refl _ | exact List.singleton_sublist.mpr (by simp) | simp) : Evx W (tCall (spE C A pre CE flds) [] E ar) w (fun _ => False) := fun σ H o Q q => h σ H o _ fun vs H1 g1 r1 => by
  have sub : ∀ a, a ∈ fps (C z) → a ∈ W.S := fun a m => by
    obtain ⟨r, m1, m2⟩ := of_fps m
    exact (g1.ok.own a (mem_fps (hC.subset m1) m2)).1
  refine ⟨W.S, z, g1.ok.al, (fps_sub hC).nodup g1.ok.nod, sub, fun r m => g1.ok.at_ r (hC.subset m), by rw [List.append_nil]; exact r1, hp, fun d xs H2 bt al c hd hf => ?_⟩
  exact fl σ d xs H2 (g1.ok.after (fun r m => hC.subset m) bt al c).ok hd hf
end
end Cs
set_option maxHeartbeats 4000000
namespace Cs
open PySem PySem.Spec PyProof.Rows L2
/-! ### a law that asks for the written form of data: it runs where no guard is up -/
/-- what the call of the law from outside is asked for -/
def RunAt (P : Program) (w : World) (K : PySem.W.Frag) (mg : Str → Option Value) (base : Heap) (fa : Addr) (fd : FuncData) (ps : List Str) (sp : Sp) : Prop :=
  ∀ (s : Shared) (H : Hp) (us : List Value) (vs : List V) (Q : VK) (E : XK), Env0 P w K mg base callerA [] s H → BindsTo s fd ⟨us, []⟩ (ps.zip us) → Vals vs us → sp vs H Q E → codeAny (model P w) callerA (.call (.ref fa) ⟨us, []⟩) (CR CX0 [] P w H s Q E) s
theorem run_at {P : Program} {w : World} {K : PySem.W.Frag} {mg : Str → Option Value} {base : Heap} {nm qual : Str} {st : Stmt} {f : Addr} {fd : FuncData} {N ps : List Str} {k : Nat} {sp : Sp} (hr : Room (k + 1) callerA) (F : Fun K nm qual st f fd) (S : FnScope N ps (defScope st)) (len : ∀ vs H Q E, sp vs H Q E → vs.length = ps.length)
    (body : ∀ (cdv : Value) (s : Shared) (H : Hp) (vs : List V) (Q : VK) (E : XK), Room k (callerA.deeper (envOfC qual (defScope st) s.heap.objs.size f cdv)) → sp vs H Q E →
      ∃ t, PSs (cxOf CX0 P w K mg base N qual (defScope st) f cdv callerA [] s H E).nox (defBody st) t ∧ t { nx := fun _ H' => Q .non H', rt := Q } (L2.start N vs) H) : RunAt P w K mg base f fd ps sp := by
  obtain ⟨oc, od, kV, doc, pm, an, cdv, ct, osl, rfl, lk, hcd⟩ := F.ex
  intro s H us vs Q E env bind rel want
  have n0 := len vs H Q E want
  have here : ∀ b o, base.get? b = some o → s.heap.get? b = some o := fun b o z => (env.bs b o z).1
  have kin : K.In s.heap := env.mod.kin.keeps here
  have places : ∀ y ∈ ps.zip us, (defScope st).names.lookup y.1 = some .local ∨ ((defScope st).names.lookup y.1 = some .cell ∧ ((cellsFrom (s.heap.objs.size + 1) (defScope st).names []).lookup y.1).isSome = true) := by
    rintro ⟨n, v⟩ m
    exact (S.par n (List.of_mem_zip m).1).imp id fun z => ⟨z, PySem.W.cellsFrom_some _ _ _ (.inl z)⟩
  refine codeAny_call_function hr.depth (kin _ _ lk) rfl S.co S.gen rfl (PySem.W.codeRec_of kin hcd) (bind _ _ _ _ ?_)
  refine wpAny_newFunctionEnv_cells S.kind places fun e1 he s1 made => ?_
  subst he
  refine ⟨(env.mod.nolimit.keeps here).keeps made.toInCall.keep, codeAny_func ?_⟩
  obtain ⟨t, ht, go⟩ := body cdv s H vs Q E (hr.deeper _) want
  have I : Inv (cxOf CX0 P w K mg base N qual (defScope st) f cdv callerA [] s H E) [] (L2.start N vs) H s1 := inv_start S hr.hd env n0 rel made
  refine wpAny_mono (ht.nox.run [] s1 (L2.start N vs) H _ I go) (fun fl s' hs => ?_) fun _ _ q => q
  have done : ∀ {σ' : L2.St} {H' : Hp} {v : V} {u : Value}, Inv (cxOf CX0 P w K mg base N qual (defScope st) f cdv callerA [] s H E) [] σ' H' s' → RelV v u → Q v H' → CE [] P w H s Q u s' := fun {_ H' v _} J rv q => ⟨v, H', J.os, J.bare, J.base, J.hok, rv, q⟩
  match fl, hs with
  | .ret u, ⟨v, σ', H', J, rv, q⟩ => exact done J rv q
  | .next, ⟨σ', H', J, q⟩ => exact done (v := V.non) (u := Value.none) J rfl q
  | .brk, ⟨_, _, _, q⟩ => exact q.elim
  | .cont, ⟨_, _, _, q⟩ => exact q.elim
/-- the call, from a heap in which at most the script is told -/
theorem call_from {P : Program} {w : World} {K : PySem.W.Frag} {mg mb : Str → Option Value} {fa a : Addr} {fd : FuncData} {x : Str} {sp : Sp} {s : Shared} {vs : List Value} {H : Hp}
    (kin : K.In s.heap) (g : s.heap.Ns mainGlobals mg) (b : s.heap.Ns builtinsNs mb) (bb : ∀ x : Str, x ≠ "__name__" → mb x = bootBuiltins x) (lim : s.heap.NoLimit) (gs : s.gens = #[]) (ha : s.heap.get? a = some { cls := .type "list", data := .seq vs.toArray })
    (F : ∀ base : Heap, K.In base → base.Ns mainGlobals mg → RunAt P w K mg base fa fd [x] sp) (bind : ∀ (s : Shared) (u : Value), BindsTo s fd ⟨[u], []⟩ [(x, u)]) (want : sp [.ref a] H (fun v _ => v = .bl true) fun _ _ _ => False)
    (hO : Only H) (hok : HOk P w H s.heap) (hA : ∀ c, H c ≠ none → c = a) (hK : H a ≠ none → K.lookup a = none) :
    codeAny (model P w) callerA (.call (.ref fa) ⟨[.ref a], []⟩) (fun r s' => r = .ok (.ret (.bool true)) ∧ OldK s.heap s'.heap ∧ s'.os = s.os ∧ AllBare s'.gens) s := by
  have none_or : ∀ c, H c = none ∨ c = a := fun c => by
    cases q : H c with
    | none => exact .inl rfl
    | some u => exact .inr (hA c (by rw [q]; simp))
  have ns' : ∀ {c : Addr} {m : Str → Option Value}, s.heap.Ns c m → (hidT s.heap H).Ns c m := fun {c m} ⟨o, es, ep, e, d, r⟩ => ⟨o, es, ep, hidT_get e ((none_or c).elim id fun z => by
    rw [z, ha] at e
    cases e
    exact absurd (show Data.seq vs.toArray _ = Data.dict es ep from d) (fun y => by cases y)), d, r⟩
  have kin' : K.In (hidT s.heap H) := fun c o e => hidT_get (kin c o e) ((none_or c).elim id fun z => by
    cases q : H c with
    | none => rfl
    | some u => rw [z, hK (by rw [← z, q]; simp)] at e; cases e)
  have md : Mod K mg (hidT s.heap H) := ⟨kin', ns' g, ⟨mb, ns' b, bb⟩, let ⟨mc, h1, h2⟩ := lim; ⟨mc, ns' h1, h2⟩⟩
  have env : Env0 P w K mg (hidT s.heap H) callerA [] s H := ⟨rfl, md, fun c o e => of_hidT e, Nat.le_of_eq (hidT_size _ _), trivial, (fun c hc => absurd (show c ∈ ([] : List Addr) from hc) List.not_mem_nil), hok, .of_eq gs⟩
  refine codeAny_mono (F _ kin' (ns' g) s H [.ref a] [.ref a] _ _ env (bind s (.ref a)) (.cons rfl .nil) want) fun r s' h => ?_
  match r, h with
  | .error _, h => exact h.elim
  | .ok .next, h => exact h.elim
  | .ok .brk, h => exact h.elim
  | .ok .cont, h => exact h.elim
  | .ok (.ret u), ⟨v, H', os, bare, un, hok', r', q⟩ =>
    obtain rfl : v = .bl true := q
    obtain rfl : u = Value.bool true := r'
    refine ⟨rfl, OldK.of_keep fun c o e => ?_, os, bare⟩
    cases q : H c with
    | none => exact un.keep c o e q (fun z => absurd (show c ∈ ([] : List Addr) from z) List.not_mem_nil) (by simp)
    | some u =>
      rcases hO c with z | ⟨ob, xs, z⟩
      · rw [q] at z; cases z
      · have e1 := (hok c _ z).1
        rw [e] at e1; cases e1
        exact (hok' c _ (un.frzs c _ _ z)).1
theorem law_callA {P : Program} {w : World} {K : PySem.W.Frag} {mg mb : Str → Option Value} {fa a : Addr} {fd : FuncData} {x : Str} {sp : Sp} {s : Shared} {vs : List Value} {ns : List Int}
    (kin : K.In s.heap) (g : s.heap.Ns mainGlobals mg) (b : s.heap.Ns builtinsNs mb) (bb : ∀ x : Str, x ≠ "__name__" → mb x = bootBuiltins x) (lim : s.heap.NoLimit) (gs : s.gens = #[]) (ha : s.heap.get? a = some { cls := .type "list", data := .seq vs.toArray }) (hi : IntsAre vs ns) (hl : ns.length ≤ sizeLine)
    (F : ∀ base : Heap, K.In base → base.Ns mainGlobals mg → RunAt P w K mg base fa fd [x] sp) (bind : ∀ (s : Shared) (u : Value), BindsTo s fd ⟨[u], []⟩ [(x, u)])
    (want : ∀ H : Hp, SqL K H a (ns.map V.int) → sp [.ref a] H (fun v _ => v = .bl true) fun _ _ _ => False) :
    codeAny (model P w) callerA (.call (.ref fa) ⟨[.ref a], []⟩) (fun r s' => r = .ok (.ret (.bool true)) ∧ OldK s.heap s'.heap ∧ s'.os = s.os ∧ AllBare s'.gens) s := by
  have rv := vals_ints hi
  cases hk : K.lookup a with
  | some o =>
    have e := kin a o hk
    rw [ha] at e
    cases e
    exact call_from (H := fun _ => none) kin g b bb lim gs ha F bind (want _ (.inr ⟨_, vs.toArray, _, hk, rfl, rfl, rfl, by rw [List.size_toArray, hi.length]; exact hl, by simpa using rv⟩)) (fun _ => .inl rfl) (fun c u z => by cases (show (none : Option HO) = some u from z)) (fun c z => absurd rfl z) fun z => absurd rfl z
  | none =>
    have off : ∀ c, c ≠ a → (if c = a then some (HO.frz { cls := .type "list", data := .seq vs.toArray } (.lst (ns.map V.int))) else none) = none := fun c n => if_neg n
    refine call_from (H := fun c => if c = a then some (.frz { cls := .type "list", data := .seq vs.toArray } (.lst (ns.map V.int))) else none) kin g b bb lim gs ha F bind (want _ (.inl (.inr ⟨{ cls := .type "list", data := .seq vs.toArray }, if_pos rfl⟩))) (fun c => ?_) (fun c u z => ?_) (fun c z => ?_) fun _ => hk
    · by_cases q : c = a
      · exact .inr ⟨_, _, if_pos q⟩
      · exact .inl (off c q)
    · by_cases q : c = a
      · cases (if_pos q).symm.trans z
        subst q
        exact ⟨ha, by rw [List.length_map]; exact hl, vs, _, rv, ha⟩
      · cases (off c q).symm.trans z
    · exact Decidable.byContradiction fun q => z (off c q)
theorem walk_ofA {l : PySem.W.OpenLaw} {n : Nat} {q : Program} {loose : List Str} {XP : (Str → Option Value) → Heap → Prop} {YP : World → Heap → Prop} {d : DefRec} {K : Params → PySem.W.Frag} {sp : World → Sp} {x : Str}
    (hn : l.most = some n) (hn2 : n ≤ sizeLine) (hdf : d.params.defaults = []) (hY : ∀ (w : World) (h : Heap), YP w h → (K w.params).In h)
    (F : ∀ (w : World) (mg : Str → Option Value) (fa : Addr) (h : Heap), (K w.params).In h → h.Ns mainGlobals mg → mg d.name = some (.ref fa) →
      ∃ fd : FuncData, (∀ (s : Shared) (u : Value), BindsTo s fd ⟨[u], []⟩ [(x, u)]) ∧ ∀ base : Heap, (K w.params).In base → base.Ns mainGlobals mg → RunAt l.prog w (K w.params) mg base fa fd [x] (sp w))
    (hsp : ∀ (w : World) (H : Hp) (a : Addr) (ns : List Int), ns.length ≤ n → SqL (K w.params) H a (ns.map V.int) → sp w [.ref a] H (fun v _ => v = .bl true) fun _ _ _ => False) :
    PySem.W.WalkO q loose XP YP l.row.toRowW d [] (fun f vs => PySem.call f vs) := by
  refine Att.attach_call hn hdf fun w s0 s mg mb fa o pm cd doc a vs ns G Y _ _ _ hmg hobj hints hlen hg => ?_
  obtain ⟨fd, hb, hF⟩ := F w mg fa _ (hY w _ Y) G.T.g hmg
  exact law_callA (hY w _ Y) G.T.g G.T.b G.T.builtins G.T.nolimit hg hobj hints (Nat.le_trans hlen hn2) hF hb fun H hS => hsp w H a ns hlen hS
/-! ### repr of data -/
theorem call_repr_dp {X : Cx} {K : PySem.W.Frag} (hK : X.K = K) (hg : X.A.guards = some []) (hu : X.A.units + 64 < cLine) : CallR X (.builtin "repr") (fun xs H Q => ∃ (v : V) (d : PyData), xs = [v] ∧ Dp K H v d ∧ (∃ a, v = .ref a) ∧ d.showable = true ∧ d.hasDict = false ∧ d.depth ≤ 60 ∧ d.shown.length ≤ sizeLine ∧ Q (.str d.shown) H) := by
  subst hK
  intro pins s σ H xs us Q I r h
  obtain ⟨v, d, rfl, hd, ⟨a, rfl⟩, hs, hn, dp, sz, q⟩ := h
  cases r with
  | cons r1 r2 =>
    cases r2
    obtain ⟨as, rd⟩ := Dp.reads I d _ _ hd r1
    obtain rfl : _ = Value.ref a := r1
    refine repr_of_reads' rd hs (fun z => by rw [hn] at z; cases z) hg (by omega) (fun _ _ e => e) (fun h' u tk keep => ?_) sz
    exact ⟨.str _, H, I.kept keep, ⟨_, rfl⟩, q⟩
end Cs
set_option maxHeartbeats 4000000
namespace Cs
open PySem PySem.Spec PyProof.Rows L2
/-! ### an own error, raised without arguments -/
section
variable {X : Cx} {C : Addr} {bmB : List Value} {B newId initId : String}
theorem pmk_own0 {x : Str} {p pos : Pos} (F : ExcBaseFacts B newId initId bmB) (q : PySem.W.excIn X.K C bmB newId = true) (gC : X.mg x = some (.ref C)) (kC : PySem.W.keepIn X.K (.ref C) = true) (r : Raises X (.ref C)) (hg : Gl X x)
    (hdb : (x == ("__debug__" : Str)) = false := by decide) : PMk X (.Call (.Name x p) [] [] pos) (fun _ H Q => Q (.ref C) none H) := by
  intro pins s σ H Q I h
  refine wpAny_Call_Name_kw (ld_glob I hg gC ?_ hdb)
  refine PySem.W.callWith_K0 I.kIn kC ?_
  show wpAny _ _ (call (.ref C) []) _ _ _
  obtain ⟨bm, N, nm, qn, bs, hdct, sn, sub, ab, col, dd, k0, k1, k2, k3, k5, mN, hC, hN, hni, T⟩ := exc_obj I.kIn q
  refine wpAny_call_exc_subT F T hC hN hni (fun h' e hm => ?_) (by show 0 ≤ sizeLine; exact Nat.zero_le _)
  exact mk_of I hm r h (I.hok.gone hm.new)
end
/-- what the written part says of an own error class without __init__ over ValueError (perhaps by another own class) -/
structure ErrC (K : PySem.W.Frag) (mg : Str → Option Value) (x : Str) (C : Addr) : Prop where
  g : mg x = some (.ref C)
  ex : PySem.W.excIn K C [.type "ValueError", .type "Exception", .type "BaseException", .type "object"] "ValueError.__new__" = true
  kp : PySem.W.keepIn K (.ref C) = true
  sb : PySem.W.subIn K (.ref C) (.type "BaseException") = some true
  ty : PySem.W.typeIn K (.ref C) = some (.type "type")

/-! ### errors without arguments, in the typed layer -/
def Flies0 (W : Wd) (σ : L2.St) (CE : Addr) (w : XK) : Prop := ∀ H', Ok W σ H' → w (.ref CE) none H'
section
variable {α β γ δ : Type} {W : Wd} {K : PySem.W.Frag} {ta tb tc td : TE} {t : Ty α} {u : Ty β} {x x' : α} {y : β} {tt uu : TT} {ar ak : TA} {fs : List SF} {i : Nat} {E : XK} {ts us vs : TS} {D : Ends}
def spE0 (C : α → List RS) (A : α → List SF) (pre : α → Prop) (CE : Addr) : Sp := fun vs H _ E => ∃ (S : List Addr) (x : α), (∀ a ∈ S, H a ≠ none) ∧ (fps (C x)).Nodup ∧ (∀ a, a ∈ fps (C x) → a ∈ S) ∧ RsAt (C x) S H ∧ Fits (hid S H) (A x) vs ∧ pre x ∧
  ∀ H', Bt (fps (C x)) H H' → (∀ a, a ∈ fps (C x) → H' a ≠ none) → RsAt (C x) S H' → E (.ref CE) none H'
/-- raise C() -/
theorem go_raise0 {C : Addr} {WW : WX} (fl : ∀ σ, Flies0 W σ C (fun c d H => WW c d σ H)) : Go W (fun _ σ H => (fun (_ : L2.St) (H : Hp) (Q : XK) => Q (.ref C) none H) σ H fun cls d H' => WW cls d σ H') D := fun σ H o => fl σ H o
theorem ok_E0 {P : Program} {w : World} {mg : Str → Option Value} {base : Heap} {nm qual : Str} {st : Stmt} {f : Addr} {fd : FuncData} {N ps : List Str} {k : Nat} {C : α → List RS} {A : α → List SF} {pre : α → Prop} {CE : Addr}
    (F : Fun K nm qual st f fd) (S : FnScope N ps (defScope st)) (hl : ∀ x, (A x).length = ps.length)
    (body : ∀ (cdv : Value) (A' : Around) (outer : List Env) (s : Shared) (H0 : Hp) (S : List Addr) (x : α) (Q : VK) (E : XK), Room k (A'.deeper (envOfC qual (defScope st) s.heap.objs.size f cdv)) → pre x → (∀ σ F G, Flies0 ⟨H0, fps (C x), S, C x, F, G⟩ σ CE E) →
      ∃ t, PSs (cxOf (L2.CX P w) P w K mg base N qual (defScope st) f cdv A' outer s H0 E) (defBody st) t ∧ Go ⟨H0, fps (C x), S, C x, [], (A x).map some ++ List.replicate (N.length - ps.length) none⟩ t { nx := fun _ H' => Q .non H', rt := Q }) :
    FnOk P w K mg base (L2.CX P w) (k + 1) f fd ps (spE0 C A pre CE) := by
  refine F.okX S (fun vs H Q E h => ?_) (fun cdv A' outer s H vs Q E hr h => ?_)
  · obtain ⟨S', x, _, _, _, _, ft, _⟩ := h
    rw [ft.length, hl]
  · obtain ⟨S', x, al, nd, sub, cc, ft, hp, out⟩ := h
    obtain ⟨t, h1, h2⟩ := body cdv A' outer s H S' x Q E hr hp fun σ F' G H' o => out H' o.bt (fun a m => o.al a (sub a m)) o.at_
    refine ⟨t, h1, h2 _ _ ⟨nd, fun a m => ⟨sub a m, .inl m⟩, cc, sub, al, Bt.refl, ?_, (fun f m => nomatch m), fun i f' q => ?_⟩⟩
    · have e1 := ft.length
      have e2 := hl x
      show (L2.start N vs).length = _
      unfold L2.start
      simp only [List.length_append, List.length_map, List.length_replicate]
      omega
    · exact start_slots (by rw [ft.length, hl]) ft q
theorem evx_methE0I {r : RS} {b Cl CE : Addr} {m : Str} {sp : Sp} {C : γ → List RS} {A : γ → List SF} {w : Ty β} {pre : γ → Prop} {z : γ} {gs : List SF} {EE : L2.St → XK} (imp : ∀ vs H Q E, spE0 C A pre CE vs H Q E → sp vs H Q E) (hi : IsOb r b Cl m) (hr : r ∈ W.L) (ho : Ev W ta tRf b) (h : Ea W ar gs) (hA : A z = tRf.is b :: gs) (hp : pre z) (fl : ∀ σ, Flies0 W σ CE (EE σ))
    (hC : (C z).Sublist W.L := by first | exact List.nil_sublist _ | exact List.Sublist.refl _ | exact List.singleton_sublist.mpr (by simp) | simp) : Evx W (tMethX Cl m sp EE ta ar) w (fun _ => False) := fun σ H o Q q => ho σ H o _ fun v0 H0 g0 r0 => by
  obtain rfl : v0 = .ref b := r0
  obtain ⟨dx, fs, h1, h2⟩ := hi _ _ (g0.ok.at_ r hr)
  refine ⟨b, dx, fs, rfl, h1, h2, h σ H0 g0.ok _ fun vs H1 g1 r1 => imp _ _ _ _ ?_⟩
  have sub : ∀ a, a ∈ fps (C z) → a ∈ W.S := fun a m => by
    obtain ⟨r, m1, m2⟩ := of_fps m
    exact (g1.ok.own a (mem_fps (hC.subset m1) m2)).1
  refine ⟨W.S, z, g1.ok.al, (fps_sub hC).nodup g1.ok.nod, sub, fun r m => g1.ok.at_ r (hC.subset m), by rw [hA]; exact ⟨rfl, r1⟩, hp, fun H2 bt al c => ?_⟩
  exact fl σ H2 (g1.ok.after (fun r m => hC.subset m) bt al c).ok
/-- in a def that raises: a method of several promises -/
theorem evx_methU {r : RS} {b Cl : Addr} {m : Str} {sp : Sp} {C : γ → List RS} {A : γ → List SF} {w : Ty β} {pre : γ → Prop} {post : γ → β → Prop} {z : γ} {gs : List SF} (imp : ∀ vs H Q E, spN C A w pre post vs H Q E → sp vs H Q E) (hi : IsOb r b Cl m) (hr : r ∈ W.L) (ho : Ev W ta tRf b) (h : Ea W ar gs) (hA : A z = tRf.is b :: gs) (hp : pre z)
    (hC : (C z).Sublist W.L := by first | exact List.nil_sublist _ | exact List.Sublist.refl _ | exact List.singleton_sublist.mpr (by simp) | simp) : Evx W (tMeth Cl m sp [] E ta ar) w (post z) := fun σ H o Q q => ho σ H o _ fun v0 H0 g0 r0 => by
  obtain rfl : v0 = .ref b := r0
  obtain ⟨dx, fs, h1, h2⟩ := hi _ _ (g0.ok.at_ r hr)
  refine ⟨b, dx, fs, rfl, h1, h2, h σ H0 g0.ok _ fun vs H1 g1 r1 => imp _ _ _ _ ?_⟩
  have sub : ∀ a, a ∈ fps (C z) → a ∈ W.S := fun a m => by
    obtain ⟨r, m1, m2⟩ := of_fps m
    exact (g1.ok.own a (mem_fps (hC.subset m1) m2)).1
  refine ⟨W.S, z, g1.ok.al, (fps_sub hC).nodup g1.ok.nod, sub, fun r m => g1.ok.at_ r (hC.subset m), by rw [List.append_nil, hA]; exact ⟨rfl, r1⟩, hp, fun v y H2 py bt al c rr => ?_⟩
  exact q v y H2 py ((g0.trans g1).trans (g1.ok.after (fun r m => hC.subset m) bt al c)) rr
theorem evx_methUE {r : RS} {b Cl CE : Addr} {m : Str} {sp : Sp} {C : γ → List RS} {A : γ → List SF} {w : Ty β} {pre : γ → Prop} {flds : γ → List (Str × SF)} {z : γ} {gs : List SF} (imp : ∀ vs H Q E, spE C A pre CE flds vs H Q E → sp vs H Q E) (hi : IsOb r b Cl m) (hr : r ∈ W.L) (ho : Ev W ta tRf b) (h : Ea W ar gs) (hA : A z = tRf.is b :: gs) (hp : pre z) (fl : ∀ σ, Flies W σ CE (flds z) E)
    (hC : (C z).Sublist W.L := by first | exact List.nil_sublist _ | exact List.Sublist.refl _ | exact List.singleton_sublist.mpr (by simp) | simp) : Evx W (tMeth Cl m sp [] E ta ar) w (fun _ => False) := fun σ H o Q q => ho σ H o _ fun v0 H0 g0 r0 => by
  obtain rfl : v0 = .ref b := r0
  obtain ⟨dx, fs, h1, h2⟩ := hi _ _ (g0.ok.at_ r hr)
  refine ⟨b, dx, fs, rfl, h1, h2, h σ H0 g0.ok _ fun vs H1 g1 r1 => imp _ _ _ _ ?_⟩
  have sub : ∀ a, a ∈ fps (C z) → a ∈ W.S := fun a m => by
    obtain ⟨r, m1, m2⟩ := of_fps m
    exact (g1.ok.own a (mem_fps (hC.subset m1) m2)).1
  refine ⟨W.S, z, g1.ok.al, (fps_sub hC).nodup g1.ok.nod, sub, fun r m => g1.ok.at_ r (hC.subset m), by rw [List.append_nil, hA]; exact ⟨rfl, r1⟩, hp, fun d xs H2 bt al c hd hf => ?_⟩
  exact fl σ d xs H2 (g1.ok.after (fun r m => hC.subset m) bt al c).ok hd hf
/-- as Flies, where the callee's own cells have come and gone: what was there before the def made things of its own -/
theorem Flies.less {H0 : Hp} {M S : List Addr} {r : RS} {L : List RS} {F : List FF} {G : List (Option SF)} {σ : L2.St} {CE : Addr} {fl : List (Str × SF)} {w : XK} {N : List Addr} (h : Flies ⟨H0, M, S, L, F, G⟩ σ CE fl w) (hS : ∀ a, a ∈ fps L → a ∈ S) (hM : ∀ a ∈ M, a ∈ S) : Flies ⟨H0, M, N ++ S, r :: L, F, G⟩ σ CE fl w :=
  fun d xs H' o hd hf => h d xs H' (Ok.drop o hS hM) hd fun n f m => by
    obtain ⟨u, h1, h2⟩ := hf n f m
    exact ⟨u, h1, f.mono (hid_less fun a z => List.mem_append_right _ z) h2⟩
end
end Cs
set_option maxHeartbeats 4000000
namespace Cs
open PySem PySem.Spec PyProof.Rows L2
section
variable {α β γ δ : Type} {W : Wd} {K : PySem.W.Frag} {ta tb tc td : TE} {t : Ty α} {u : Ty β} {x x' : α} {y : β} {tt uu : TT} {ar ak : TA} {fs : List SF} {i : Nat} {E : XK} {ts us vs : TS} {D : Ends} {r : RS} {q p : Addr} {vxs : List (V × α)} {xs ys : List α} {z : Str}
/-- a name among the names of a thing's list -/
theorem ev_inSR {ws : List (V × Str)} (hr : r ∈ W.L) (hs : SaysR r q tSt ws) (ha : Ev W ta tSt z) (hb : Ev W tb tRf q) : Ev W (tOp (rIn K false) ta tb) tBl (decide (z ∈ ws.map (·.2))) := fun σ H o Q k =>
  ha σ H o _ fun v H1 g1 r1 => hb σ H1 g1.ok _ fun v2 H2 g2 r2 => by
    obtain rfl : v2 = .ref q := r2
    obtain ⟨h1, h2⟩ := hs _ _ (g2.ok.at_ r hr)
    have al : All2 (tSt.r (hid W.S H2)) (ws.map (·.1)) (ws.map (·.2)) := all2_tags h2
    exact ⟨q, _, rfl, .inl (SqL.of h1), by rw [show v = .str z from r1]; rfl, flat_str al, k _ H2 (g1.trans g2) (by rw [show v = .str z from r1]; show V.bl (inV (.str z) _) = _; rw [inV_str al])⟩
theorem ev_niSR {ws : List (V × Str)} (hr : r ∈ W.L) (hs : SaysR r q tSt ws) (ha : Ev W ta tSt z) (hb : Ev W tb tRf q) : Ev W (tOp (rIn K true) ta tb) tBl (!decide (z ∈ ws.map (·.2))) := fun σ H o Q k =>
  ha σ H o _ fun v H1 g1 r1 => hb σ H1 g1.ok _ fun v2 H2 g2 r2 => by
    obtain rfl : v2 = .ref q := r2
    obtain ⟨h1, h2⟩ := hs _ _ (g2.ok.at_ r hr)
    have al : All2 (tSt.r (hid W.S H2)) (ws.map (·.1)) (ws.map (·.2)) := all2_tags h2
    exact ⟨q, _, rfl, .inl (SqL.of h1), by rw [show v = .str z from r1]; rfl, flat_str al, k _ H2 (g1.trans g2) (by rw [show v = .str z from r1]; show V.bl (!inV (.str z) _) = _; rw [inV_str al])⟩
/-! ### equality of pairs; of a list with a thing's list -/
def eqPr (a : Eqt K t) (b : Eqt K u) : Eqt K (tPr K t u) := ⟨fun x => .tuple [a.d x.1, b.d x.2], max a.n b.n + 1, fun ⟨p, v, w, e, s, h1, h2⟩ => by rw [e]; exact .tup s (.cons (a.dp h1) (.cons (b.dp h2) .nil)), fun x => by
  have h1 := a.dep x.1
  have h2 := b.dep x.2
  simp only [PyData.depth, PyData.depthAll]
  omega, fun x y => by
  simp only [PyData.eqv, PyData.eqvAll, Bool.and_true, Bool.and_eq_true, a.inj, b.inj]
  exact ⟨fun ⟨h1, h2⟩ => Prod.ext h1 h2, fun h => by rw [h]; exact ⟨rfl, rfl⟩⟩⟩
theorem lay_pr {a : Eqt K t} {b : Eqt K u} {x : α × β} (h1 : (a.d x.1).canLay0 = true) (h2 : (b.d x.2).canLay0 = true) : ((eqPr a b).d x).canLay0 = true := by
  show (PyData.tuple [a.d x.1, b.d x.2]).canLay0 = true
  simp only [PyData.canLay0, PyData.canLayAll0, h1, h2, Bool.and_true]
theorem cell_dp {H : Hp} {S : List Addr} (e : Eqt K t) (h : (cell p (cTg t vxs)).p (hid S H) H) : Dp K H (.ref p) ((eqLs e).d (vxs.map (·.2))) := by
  obtain ⟨o, h1, rfl, h2⟩ := h
  exact .lst (SqL.of h1) (dpAll_of e (all2_tags fun q m => t.mono hid_sub (h2 q m)))
theorem ev_neDc [DecidableEq α] (e : Eqt K t) (ha : Ev W ta (tLs K t) xs) (hb : Ev W tb tRf p) (hL : cell p (cTg t vxs) ∈ W.L) (l1 : ((eqLs e).d xs).canLay0 = true) (l2 : ((eqLs e).d (vxs.map (·.2))).canLay0 = true) (hn : (eqLs e).n ≤ 64) : Ev W (tOp (rNeD K) ta tb) tBl (!decide (xs = vxs.map (·.2))) := fun σ H o Q k =>
  ha σ H o _ fun v H1 g1 r1 => hb σ H1 g1.ok _ fun v2 H2 g2 r2 => by
    obtain rfl : v2 = .ref p := r2
    exact ⟨_, _, dp_mono hid_sub ((eqLs e).dp ((tLs K t).mono g2.up r1)), cell_dp e (g2.ok.at_ _ hL), (eqLs e).shape hn l1, (eqLs e).shape hn l2, by rw [(eqLs e).dec]; exact k _ H2 (g1.trans g2) rfl⟩
theorem ev_neDc1 [DecidableEq α] (e : Eqt K t) (ha : Ev W ta tRf p) (hL : cell p (cTg t vxs) ∈ W.L) (hb : Ev W tb (tLs K t) xs) (l1 : ((eqLs e).d xs).canLay0 = true) (l2 : ((eqLs e).d (vxs.map (·.2))).canLay0 = true) (hn : (eqLs e).n ≤ 64) : Ev W (tOp (rNeD K) ta tb) tBl (!decide (vxs.map (·.2) = xs)) := fun σ H o Q k =>
  ha σ H o _ fun v H1 g1 r1 => hb σ H1 g1.ok _ fun v2 H2 g2 r2 => by
    obtain rfl : v = .ref p := r1
    exact ⟨_, _, cell_dp e (g2.ok.at_ _ hL), dp_mono hid_sub ((eqLs e).dp r2), (eqLs e).shape hn l2, (eqLs e).shape hn l1, by rw [(eqLs e).dec]; exact k _ H2 (g1.trans g2) rfl⟩
/-- list(xs), the copy a thing of its own -/
theorem go_listT {n : Nat} (ha : Ev W ta (tLs K t) xs) (k : ∀ p vxs, p ∉ W.S → vxs.map (·.2) = xs → Go ⟨W.H0, W.M, p :: W.S, cell p (cTg t vxs) :: W.L, W.F, W.G.set n (some (tRf.is p))⟩ us D) :
    Go W (tSeq (tAsg (tCB (fun xs H Q => ∃ p ys, xs = [.ref p] ∧ (SqL K H p ys ∨ SqT K H p ys) ∧ ∀ l, H l = none → Q (.ref l) (upd H l (.lst ys))) (tCons ta tNil)) (gName n)) us) D := fun σ H o => ha σ H o _ fun v H1 g1 ⟨p, vs, e, s, al⟩ => by
  obtain ⟨vxs, e1, e2, h3⟩ := tags_of al
  refine ⟨p, vs, by rw [e], .inl (SqL.of (hid_sub _ _ s)), fun l nl => k l vxs (g1.ok.off nl) e2 _ _ (Ok.put (i := n) (f := tRf.is l) (g1.ok.cell (ψ := cTg t vxs) (o := .lst vs) nl ⟨by rw [e1], h3⟩).1 rfl)⟩
end
end Cs
set_option maxHeartbeats 4000000
namespace Cs
open PySem PySem.Spec PyProof.Rows L2
section
variable {α β γ δ : Type} {W : Wd} {K : PySem.W.Frag} {ta tb tc td : TE} {t : Ty α} {u : Ty β} {x x' : α} {y : β} {tt uu : TT} {ar ak : TA} {fs : List SF} {i : Nat} {E : XK} {ts us vs : TS} {D : Ends} {r : RS} {q p : Addr} {vxs : List (V × α)} {xs ys : List α} {z : Str}
/-- the end of a def that changes things: what is new is what the things have that was not hidden -/
theorem ends_S2 {C C' : List RS} {S : List Addr} {w : Ty β} {P : β → List RS → Prop} {Q : VK} {σ : L2.St} {H : Hp} {v : V} (o : Ok W σ H) (out : RtS C S W.H0 w P Q) (r : w.r (hid W.S H) v y) (hp : P y C') (hS : ∀ a, a ∈ S → a ∈ W.S) (hL : W.L.Perm C') (hM : W.M = fps C) (al : ∀ a, a ∈ S → W.H0 a ≠ none) (hMS : ∀ a, a ∈ fps C → a ∈ S) : Q v H := by
  have o' := o.perm hL
  have sub : ∀ a, a ∈ (fps C').filter (fun a => decide (a ∉ S)) ++ S → a ∈ W.S := fun a m => by
    rcases List.mem_append.mp m with m | m
    · exact (o'.own a (List.mem_filter.mp m).1).1
    · exact hS a m
  refine out v y ((fps C').filter fun a => decide (a ∉ S)) C' H hp (by rw [← hM]; exact o.bt) (fun a m => ?_) o'.nod (fun a m => ?_) (fun a m => o.al a (o.ms a (by rw [hM]; exact m))) (fun c m => c.mono (hid_less sub) (o'.at_ c m)) (w.mono (hid_less sub) r)
  · obtain ⟨m1, m2⟩ := List.mem_filter.mp m
    have m2 : a ∉ S := of_decide_eq_true m2
    refine ⟨?_, o.al a (o'.own a m1).1⟩
    rcases (o'.own a m1).2 with z | z
    · exact absurd (hMS a (by rw [← hM]; exact z)) m2
    · exact z
  · by_cases q : a ∈ S
    · rcases (o'.own a m).2 with z | z
      · exact .inl (by rw [← hM]; exact z)
      · exact absurd z (al a q)
    · exact .inr (List.mem_filter.mpr ⟨m, by simpa using q⟩)
theorem fps_nil_perm {C : List RS} : (C ++ []).Perm C := by rw [List.append_nil]
/-- a draw whose bound is drawn -/
theorem evx_drawSx {P : Int → Prop} {s : Nat} {d l : Addr} {ns : List Int} (hs : W.G[s]? = some (some (tRf.is d))) (hL : cell d (cSt K d l ns) ∈ W.L) (hm : Evx W ta tInt P) (mb : ∀ m, P m → 0 < m ∧ m.natAbs < 2 ^ 8000) :
    Evx W (tCall (spDrawSA K) [] E (tCons (tVar s) (tCons ta tNil))) tInt (fun v => ∃ m, P m ∧ 0 ≤ v ∧ v < m) := fun σ H o Q q => by
  obtain ⟨v, h1, rfl⟩ := o.slots s _ hs
  refine ⟨.ref d, h1, ?_⟩
  refine hm σ H o _ fun v m H1 pm g1 r => ?_
  obtain ⟨ob, hob, b, c, e, gg, rfl, hl, ne, b0⟩ := g1.ok.at_ _ hL
  refine ⟨d, m, l, ns, by rw [show v = .int m from r]; rfl, (mb m pm).1, (mb m pm).2, ⟨b, c, e, gg, hob, hid_sub.seq hl, ne, b0⟩, fun w H2 w0 w1 bt ⟨b', c', e', gg', hob', _, _, b0'⟩ => ?_⟩
  have fd : fps [cell d (cSt K d l ns)] = [d] := rfl
  have bt' : Bt (fps [cell d (cSt K d l ns)]) H1 H2 := fun a o n h => bt a o (fun z => n (by rw [fd, z]; exact List.mem_cons_self ..)) h
  have hd : d ∈ W.S := (g1.ok.own d (mem_fps hL (List.mem_cons_self ..))).1
  have up : Same (hid W.S H1) (hid W.S H2) := bt'.hid (N := []) (fun a m => by rw [fd] at m; rw [List.mem_singleton.mp m]; exact hd) (fun a m => nomatch m)
  have g2 := g1.ok.after (C := [cell d (cSt K d l ns)]) (fun r m => by rw [List.mem_singleton.mp m]; exact hL) bt' (fun a m => by rw [fd] at m; rw [List.mem_singleton.mp m, hob']; simp) (fun r m => by
    rw [List.mem_singleton.mp m]
    exact ⟨_, hob', b', c', e', gg', rfl, up.seq hl, ne, b0'⟩)
  exact q _ w H2 ⟨m, pm, w0, w1⟩ (g1.trans g2) rfl
theorem ivx_list {P : List α → Prop} (h : Evx W ta (tLs K t) P) : Ivx W (iList K ta) t P := fun σ H o R q => h σ H o _ fun v xs H1 px g1 ⟨p, vs, e, s, al⟩ =>
  ⟨p, e, ⟨vs, (SqL.of (hid_sub _ _ s))⟩, q _ _ _ (ffL K t p vs xs) px g1 ⟨SqL.of s, al⟩ ⟨YAt vs, by
    rw [← al.length]
    exact walk_list.mono (fun H ⟨S, z⟩ => hid_sub.seq z.1) fun i H v H' _ _ h => h, fun i H v H' S hi z _ ⟨e1, e2⟩ => by
    subst e1
    obtain ⟨x, h1, h2⟩ := z.2.getV e2
    exact ⟨Same.refl _, x, h1, h2⟩⟩⟩
/-! ### calls that change things, their arguments of several answers -/
theorem evm_callx {C : γ → List RS} {A : γ → List SF} {w : Ty β} {pre : γ → Prop} {post : γ → β → List RS → Prop} {R : List RS} {G : δ → List SF} {P : δ → Prop} (z : δ → γ) (h : Eax W ar G P) (hA : ∀ c, A (z c) = G c) (hp : ∀ c, P c → pre (z c)) (hL : ∀ c, W.L.Perm (C (z c) ++ R)) : Evm W (tCall (spS C A w pre post) [] E ar) w (fun y W' => ∃ c, P c ∧ Aft W R (post (z c) y) W') := fun σ H o Q q => h σ H o _ fun vs c H1 pc g1 r1 => by
  have o1 := g1.ok.perm (hL c)
  refine ⟨W.S, z c, g1.ok.al, (nodup_app.mp o1.nod).1, fun a m => ?_, fun r m => o1.at_ r (List.mem_append_left _ m), by rw [List.append_nil, hA]; exact r1, hp c pc, fun v y N C' H2 py b hN nd hC' al rs r => ?_⟩
  · obtain ⟨r, m1, m2⟩ := of_fps m
    exact (o1.own a (mem_fps (List.mem_append_left _ m1) m2)).1
  · exact q v y _ H2 ⟨c, pc, N, C', py, rfl⟩ (aft_of g1.ok (hL c) b hN nd hC' al rs) r
/-! ### tests that change things -/
def Etm (W : Wd) (tt : TT) (P : Bool → Wd → Prop) : Prop := ∀ σ H, Ok W σ H → ∀ Q : Bool → Hp → Prop, (∀ b W' H', P b W' → Ok W' σ H' → Q b H') → tt σ H Q
theorem etm_B {P : Bool → Wd → Prop} (h : Evm W ta tBl P) : Etm W (tB ta) P := fun σ H o Q q => h σ H o _ fun v b W' H' p o' r => ⟨b, r, q b W' H' p o'⟩
theorem etm_of {P : Bool → Wd → Prop} (h : Evm W ta tBl P) : Etm W (tTest ta) P := fun σ H o Q q => h σ H o _ fun v b W' H' p o' r => ⟨b, r, q b W' H' p o'⟩
theorem etm_not {P : Bool → Wd → Prop} (h : Etm W tt P) : Etm W (tNot tt) (fun b W' => P (!b) W') := fun σ H o Q q => h σ H o _ fun b W' H' p o' => q (!b) W' H' (by show P (!(!b)) W'; rw [Bool.not_not]; exact p) o'
theorem etm_orF {P : Bool → Wd → Prop} (h : Etm W tt P) (hf : ∀ b W', P b W' → b = false) (g : ∀ W', P false W' → Et W' uu false) : Etm W (tOr tt uu) (fun b W' => b = false ∧ P false W') := fun σ H o Q q => h σ H o _ fun b W' H' p o' => by
  obtain rfl := hf b W' p
  show uu σ H' Q
  exact g W' p σ H' o' Q fun H2 g2 => q false W' H2 ⟨rfl, p⟩ g2.ok
theorem go_ifm {P : Bool → Wd → Prop} (h : Etm W tt P) (h1 : ∀ W', P true W' → Go W' ts D) (h2 : ∀ W', P false W' → Go W' us D) : Go W (tIfS tt ts us) D := fun σ H o => h σ H o _ fun b W' H' p o' => by
  cases b with
  | true => exact h1 W' p σ H' o'
  | false => exact h2 W' p σ H' o'
theorem go_ifrm {P : Bool → Wd → Prop} (h : Etm W tt P) (h1 : ∀ W', P true W' → Go W' ts { D with nx := vs D }) (h2 : ∀ W', P false W' → Go W' vs D) : Go W (tSeq (tIfS tt ts tNext) vs) D := go_ifm h h1 h2
/-! ### written forms -/
def rRepr (K : PySem.W.Frag) : List V → Hp → VK → Prop := fun xs H Q => (∃ (v : V) (d : PyData), xs = [v] ∧ Dp K H v d ∧ (∃ a, v = .ref a) ∧ d.showable = true ∧ d.hasDict = false ∧ d.depth ≤ 60 ∧ d.shown.length ≤ sizeLine ∧ Q (.str d.shown) H) ∨
  (∃ i : Int, xs = [.int i] ∧ i.natAbs.log2 < 1920 ∧ Q (.str (toString i)) H) ∨ ∃ y : Str, xs = [.str y] ∧ (reprText y).length ≤ sizeLine ∧ Q (.str (reprText y)) H
theorem call_repr {X : Cx} {K : PySem.W.Frag} (hK : X.K = K) (hg : X.A.guards = some []) (hu : X.A.units + 64 < cLine) : CallR X (.builtin "repr") (rRepr K) := by
  intro pins s σ H xs us Q I r h
  rcases h with h | ⟨i, rfl, hi, q⟩ | ⟨y, rfl, hy, q⟩
  · exact call_repr_dp hK hg hu pins s σ H xs us Q I r h
  · obtain ⟨u, rfl, t, rfl⟩ := vals1 r
    exact PySem.P.repr_of_int hi ⟨.str _, H, I.tok _, ⟨_, rfl⟩, q⟩
  · obtain ⟨u, rfl, t, rfl⟩ := vals1 r
    exact PySem.P.repr_of_str ⟨.str _, H, I.tok _, ⟨_, rfl⟩, q⟩ hy
/-- how a kind is written -/
structure Wrt (K : PySem.W.Frag) (t : Ty α) (sh : α → Str) (ok : α → Prop) : Prop where
  run : ∀ {S : List Addr} {H : Hp} {v : V} {x : α}, t.r (hid S H) v x → ok x → ∀ Q : VK, Q (.str (sh x)) H → rRepr K [v] H Q
theorem ev_repr {sh : α → Str} {ok : α → Prop} (w : Wrt K t sh ok) (h : Ev W ta t x) (hx : ok x) : Ev W (tCB (rRepr K) (tCons ta tNil)) tSt (sh x) := fun σ H o Q q => h σ H o _ fun v H1 g1 r1 => w.run r1 hx _ (q _ H1 g1 rfl)
theorem evm_repr {sh : α → Str} {ok : α → Prop} {P : α → Wd → Prop} (w : Wrt K t sh ok) (h : Evm W ta t P) (hx : ∀ x W', P x W' → ok x) : Evm W (tCB (rRepr K) (tCons ta tNil)) tSt (fun z W' => ∃ x, P x W' ∧ z = sh x) := fun σ H o Q q => h σ H o _ fun v x W' H1 p o1 r1 => w.run r1 (hx x W' p) _ (q _ _ W' H1 ⟨x, p, rfl⟩ o1 rfl)
theorem evm_neS {P : Str → Wd → Prop} (ha : Evm W ta tSt P) (hb : ∀ x W', P x W' → Ev W' tb tSt z) : Evm W (tOp rNe ta tb) tBl (fun b W' => ∃ x, P x W' ∧ b = !decide (x = z)) := fun σ H o Q q => ha σ H o _ fun v x W' H1 p o1 r1 => hb x W' p σ H1 o1 _ fun v2 H2 g2 r2 => by
  obtain rfl : v = .str x := r1
  obtain rfl : v2 = .str z := r2
  exact ⟨rfl, q _ _ W' H2 ⟨x, p, rfl⟩ g2.ok (by show V.bl _ = V.bl _; simp)⟩
/-! ### answers that are new -/
theorem h0_of {σ : L2.St} {H : Hp} (o : Ok W σ H) {a : Addr} (n : H a = none) : W.H0 a = none := by
  cases q : W.H0 a with
  | none => rfl
  | some ob =>
    by_cases hm : a ∈ W.M
    · exact absurd n (o.al a (o.ms a hm))
    · rw [o.bt a ob hm q] at n; cases n
/-- a list that was not there in G -/
def tNw (G : Hp) {α : Type} (t : Ty α) : Ty (List α) := ⟨fun H v xs => ∃ p vs, v = .ref p ∧ H p = some (.lst vs) ∧ All2 (t.r H) vs xs ∧ G p = none, fun e ⟨p, vs, h, g, h1, h2⟩ => ⟨p, vs, h, e _ _ g, All2.mono (fun _ _ => t.mono e) h1, h2⟩⟩
theorem ev_listNw (h : Ev W ta (tLs K t) xs) : Ev W (tCB (fun xs H Q => ∃ p ys, xs = [.ref p] ∧ (SqL K H p ys ∨ SqT K H p ys) ∧ ∀ l, H l = none → Q (.ref l) (upd H l (.lst ys))) (tCons ta tNil)) (tNw W.H0 t) xs := fun σ H o Q q =>
  h σ H o _ fun v H1 g1 ⟨p, vs, ev, s, al⟩ => ⟨p, vs, by rw [ev], .inl ((SqL.of (hid_sub _ _ s))), fun l nl => q _ _ (g1.trans (g1.ok.new nl)) ⟨l, vs, rfl, (by rw [hid_of (g1.ok.off nl)]; exact upd_same), All2.mono (fun _ _ => t.mono (g1.ok.new nl).up) al, h0_of g1.ok nl⟩⟩
/-- as ok_N, the answer's kind told by the heap that was found -/
theorem ok_NH {P : Program} {w : World} {mg : Str → Option Value} {base : Heap} {nm qual : Str} {st : Stmt} {f : Addr} {fd : FuncData} {N ps : List Str} {k : Nat} {C : α → List RS} {A : α → List SF} {wt : Hp → Ty β} {pre : α → Prop} {post : α → β → Prop}
    (F : Fun K nm qual st f fd) (S : FnScope N ps (defScope st)) (hl : ∀ x, (A x).length = ps.length)
    (body : ∀ (cdv : Value) (A' : Around) (outer : List Env) (s : Shared) (H0 : Hp) (S : List Addr) (x : α) (Q : VK) (E : XK), Room k (A'.deeper (envOfC qual (defScope st) s.heap.objs.size f cdv)) → pre x → Rt (C x) S H0 (wt H0) (post x) Q →
      ∃ t, PSs (cxOf CX0 P w K mg base N qual (defScope st) f cdv A' outer s H0 E).nox (defBody st) t ∧ Go ⟨H0, fps (C x), S, C x, [], (A x).map some ++ List.replicate (N.length - ps.length) none⟩ t { nx := fun _ H' => Q .non H', rt := Q }) :
    FnOk P w K mg base CX0 (k + 1) f fd ps (fun vs H Q E => spN C A (wt H) pre post vs H Q E) := by
  refine F.ok S (fun vs H Q E h => ?_) (fun cdv A' outer s H vs Q E hr h => ?_)
  · obtain ⟨S', x, _, _, _, _, ft, _⟩ := h
    rw [ft.length, hl]
  · obtain ⟨S', x, al, nd, sub, cc, ft, hp, out⟩ := h
    obtain ⟨t, h1, h2⟩ := body cdv A' outer s H S' x Q E hr hp (fun v y H' => out v y H')
    refine ⟨t, h1, h2 _ _ ⟨nd, fun a m => ⟨sub a m, .inl m⟩, cc, sub, al, Bt.refl, ?_, (fun f m => nomatch m), fun i f' q => ?_⟩⟩
    · have e1 := ft.length
      have e2 := hl x
      show (L2.start N vs).length = _
      unfold L2.start
      simp only [List.length_append, List.length_map, List.length_replicate]
      omega
    · exact start_slots (by rw [ft.length, hl]) ft q
end
end Cs
set_option maxHeartbeats 4000000
namespace Cs
open PySem PySem.Spec PyProof.Rows L2
section
variable {α β γ δ : Type} {W : Wd} {K : PySem.W.Frag} {ta tb tc td : TE} {t : Ty α} {u : Ty β} {x x' : α} {y : β} {tt uu : TT} {ar ak : TA} {fs : List SF} {i : Nat} {E : XK} {ts us vs : TS} {D : Ends} {r : RS} {q p : Addr} {vxs : List (V × α)} {xs ys : List α} {z : Str}
/-- a list whose items do not lean on the list itself -/
def tLsH {α : Type} (t : Ty α) : Ty (List α) := ⟨fun H v xs => ∃ p vs, v = .ref p ∧ H p = some (.lst vs) ∧ All2 (t.r (hid [p] H)) vs xs, fun e ⟨p, vs, h, g, h1⟩ => ⟨p, vs, h, e _ _ g, All2.mono (fun _ _ => t.mono (hid_same e)) h1⟩⟩
theorem evx_pr1 {P : β → Prop} {P' : α × β → Prop} (ha : Ev W ta t x) (hb : Evx W tb u P) (h : ∀ y, P y → P' (x, y)) : Evx W (tTup (tCons ta (tCons tb tNil))) (tPr K t u) P' := fun σ H o Q q =>
  ha σ H o _ fun v H1 g1 r1 => hb σ H1 g1.ok _ fun v2 y H2 py g2 r2 => ⟨by show 2 ≤ sizeLine; decide, fun p np => q _ (x, y) _ (h y py) ((g1.trans g2).trans (g2.ok.new np))
    ⟨p, v, v2, rfl, SqT.of (by rw [hid_of (g2.ok.off np)]; exact upd_same), t.mono (g2.up.trans (g2.ok.new np).up) r1, u.mono (g2.ok.new np).up r2⟩⟩
end
section
variable {α β γ : Type} {W : Wd} {K : PySem.W.Frag} {ta tb tc : TE} {t : Ty α} {u : Ty β} {x : α} {y : β} {tt uu : TT} {ar : TA} {ts us : TS} {D : Ends} {g : TG} {as : α → List (Nat × SF)} {wi : TI}
theorem evx_lcH {xs : List α} {P : α → Bool → Prop} {R : α → β → Prop} {vs : List Nat} (h : Iv W wi t xs) (tg : Tgt g t as) (hi : ∀ x, ∀ p ∈ as x, p.1 ∈ vs) (hl : xs.length < sizeLine)
    (ht : ∀ D φ F x, (∀ f ∈ W.F, f ∈ F) → x ∈ xs → Etx ((W.el D φ F vs).puts (as x)) tt (P x))
    (he : ∀ D φ F x, (∀ f ∈ W.F, f ∈ F) → x ∈ xs → P x true → Evx ((W.el D φ F vs).puts (as x)) tb u (R x)) (hp : ∀ (W : Wd) x, (W.puts (as x)).H0 = W.H0 ∧ (W.puts (as x)).M = W.M ∧ (W.puts (as x)).S = W.S ∧ (W.puts (as x)).L = W.L ∧ (W.puts (as x)).F = W.F := by intros; exact ⟨rfl, rfl, rfl, rfl, rfl⟩) :
    Evx W (tLc wi g tt tb vs) (tLsH u) (LcR P R xs) := fun σ H o Q q => by
  refine h σ H o _ fun J H1 f g1 fp wk => ?_
  intro D nD
  obtain ⟨Y, wY, hY⟩ := wk.ex
  let Wk : List β → Wd := fun ys => ⟨W.H0, W.M, D :: W.S, cell D (cLs u ys) :: W.L, f :: ffS (hid W.S H1) :: W.F, W.G⟩
  have start : Ok (Wk []) σ (upd H1 D (.lst [])) := by
    obtain ⟨o1, up⟩ := g1.ok.cell (ψ := cLs u ([] : List β)) nD ⟨[], rfl, trivial⟩
    exact Ok.know (Ok.know o1 (f := ffS (hid W.S H1)) up) (f := f) (f.mono up fp)
  have ff : ∀ ys H, Ok (Wk ys) σ H → f.p (hid (D :: W.S) H) := fun ys H o => o.facts f (List.mem_cons_self ..)
  refine lc_it wY (fun k H' => ∃ ys, LcR P R (xs.take k) ys ∧ Ok (Wk ys) σ H') ⟨[], .nil, start⟩ (fun k H' _ ⟨ys, _, o'⟩ => ⟨_, ff ys H' o'⟩) ?_ ?_
  · rintro k v H0' H' hk ⟨ys, rel, o'⟩ y
    obtain ⟨e, x, hx, rx⟩ := hY k H0' v H' _ hk (ff ys H0' o') o'.al y
    have o' := o'.same e
    have xm := List.mem_of_getElem? hx
    have sub : ∀ q ∈ W.F, q ∈ f :: ffS (hid W.S H1) :: W.F := fun q m => List.mem_cons_of_mem _ (List.mem_cons_of_mem _ m)
    refine tg _ _ H' v x (Ok.wipe (vs := vs) o') rx _ fun σ' oe ew => ?_
    refine ⟨by rw [ew vs (hi x), wipe_twice], ?_⟩
    have back : ∀ H2, Go1 (((W.el D (cLs u ys) (f :: ffS (hid W.S H1) :: W.F) vs).puts (as x))) σ' H' H2 → Ok (Wk ys) σ H2 := fun H2 g2 => by
      obtain ⟨p1, p2, p3, p4, p5⟩ := hp (W.el D (cLs u ys) (f :: ffS (hid W.S H1) :: W.F) vs) x
      have o2 := g2.ok
      have up := g2.up
      rw [p3] at up
      have o3 : Ok { Wk ys with G := ((W.el D (cLs u ys) (f :: ffS (hid W.S H1) :: W.F) vs).puts (as x)).G } σ' H2 := by
        have : ((W.el D (cLs u ys) (f :: ffS (hid W.S H1) :: W.F) vs).puts (as x)) = { Wk ys with G := ((W.el D (cLs u ys) (f :: ffS (hid W.S H1) :: W.F) vs).puts (as x)).G } := by
          generalize ((W.el D (cLs u ys) (f :: ffS (hid W.S H1) :: W.F) vs).puts (as x)) = Z at p1 p2 p3 p4 p5 ⊢
          cases Z
          cases p1; cases p2; cases p3; cases p4; cases p5
          rfl
        rw [← this]
        exact o2
      exact Ok.swap (W := Wk ys) o' o3 up
    refine ht D _ _ x sub xm _ _ oe _ fun b H2 pb g2 => ?_
    cases b with
    | false =>
      refine iteF ⟨ys, ?_, back H2 g2⟩
      rw [take_snoc hx]
      exact .skip rel pb
    | true =>
      refine iteT ?_
      refine he D _ _ x sub xm pb _ _ g2.ok _ fun w z H3 pz g3 rz => ?_
      have o3 := back H3 (g2.trans g3)
      obtain ⟨ob, hob, us', rfl, hus⟩ := o3.at_ _ (List.mem_cons_self ..)
      refine ⟨us', hob, ?_, ys ++ [z], ?_, ?_⟩
      · rw [hus.length]
        refine Nat.lt_of_le_of_lt (Nat.le_trans rel.len ?_) hl
        rw [List.length_take]
        omega
      · rw [take_snoc hx]
        exact .take rel pb pz
      · rw [(hp (W.el D (cLs u ys) (f :: ffS (hid W.S H1) :: W.F) vs) x).2.2.1] at rz
        exact (o3.write (ψ := cLs u (ys ++ [z])) (o := .lst (us' ++ [w])) rfl ⟨_, rfl, hus.app (ws := [w]) (ys := [z]) ⟨rz, trivial⟩⟩).ok
  · rintro H' ⟨ys, rel, o2⟩
    rw [List.take_length] at rel
    obtain ⟨ob, hob, us', rfl, hus⟩ := o2.at_ _ (List.mem_cons_self ..)
    have up := o2.facts (ffS (hid W.S H1)) (List.mem_cons_of_mem _ (List.mem_cons_self ..))
    have less : Same (hid (D :: W.S) H') (hid W.S H') := hid_less fun a h => List.mem_cons_of_mem _ h
    have o3 := Ok.drop (N := [D]) o2 (ok_sub g1.ok) g1.ok.ms
    have o4 : Ok W σ H' := ⟨o3.nod, o3.own, o3.at_, o3.ms, o3.al, o3.bt, o3.len, fun f m => o3.facts f (List.mem_cons_of_mem _ (List.mem_cons_of_mem _ m)), o3.slots⟩
    refine q _ ys _ rel (g1.trans ⟨o4, up.trans less⟩) ⟨D, us', rfl, ?_, All2.mono (fun _ _ => u.mono fun a o h => ?_) hus⟩
    · rw [hid_of (g1.ok.off nD)]
      exact hob
    · unfold hid at h ⊢
      split at h
      · cases h
      · rename_i n
        rw [if_neg (fun m => n (by rw [List.mem_singleton.mp m]; exact List.mem_cons_self ..)), if_neg (fun m => n (List.mem_cons_of_mem _ m))]
        exact h
theorem ev_lcmH {xs : List α} {f : α → β} {vs : List Nat} (h : Iv W wi t xs) (tg : Tgt g t as) (hi : ∀ x, ∀ p ∈ as x, p.1 ∈ vs) (hl : xs.length < sizeLine)
    (he : ∀ D φ F x, (∀ f ∈ W.F, f ∈ F) → x ∈ xs → Ev ((W.el D φ F vs).puts (as x)) tb u (f x)) (hp : ∀ (W : Wd) x, (W.puts (as x)).H0 = W.H0 ∧ (W.puts (as x)).M = W.M ∧ (W.puts (as x)).S = W.S ∧ (W.puts (as x)).L = W.L ∧ (W.puts (as x)).F = W.F := by intros; exact ⟨rfl, rfl, rfl, rfl, rfl⟩) :
    Ev W (tLc wi g tYes tb vs) (tLsH u) (xs.map f) := fun σ H o Q q =>
  evx_lcH (P := fun _ b => b = true) (R := fun x y => y = f x) h tg hi hl (fun D φ F x hF hx => et_yes.toX rfl) (fun D φ F x hF hx e => (he D φ F x hF hx).x rfl) hp σ H o Q fun v ys H' r g1 rr => q v H' g1 (by
    have e : ys = (xs.filter fun _ => true).map f := LcR.det (p := fun _ => true) r
    rw [filter_yes] at e
    exact e ▸ rr)
end
section
variable {α β γ δ : Type} {W : Wd} {K : PySem.W.Frag} {ta tb tc td : TE} {t : Ty α} {u : Ty β} {x x' : α} {y : β} {tt uu : TT} {ar ak : TA} {fs : List SF} {i : Nat} {E : XK} {ts us vs : TS} {D : Ends} {r : RS} {q p : Addr} {vxs : List (V × α)} {xs ys : List α} {z : Str}
/-- p.append(e), e of several answers -/
theorem go_app1Tx {R : List RS} {P : α → Prop} (hL : W.L.Perm (cell p (cTg t vxs) :: R)) (ho : Ev W ta tRf p) (ha : Evx W tb t P) (hl : vxs.length < sizeLine) (k : ∀ v x, P x → ∀ σ H, Ok { W with L := cell p (cTg t (vxs ++ [(v, x)])) :: R } σ H → D.nx σ H) :
    Go W (tDrop (tBM K "list" rAppend ta (tCons tb tNil))) D := fun σ H o => ho σ H o _ fun w H1 g1 r1 => by
  obtain rfl : w = .ref p := r1
  have mem : cell p (cTg t vxs) ∈ W.L := hL.mem_iff.mpr (List.mem_cons_self ..)
  obtain ⟨ob, hob, rfl, _⟩ := g1.ok.at_ _ mem
  refine ⟨.inl ⟨rfl, _, SqL.of hob⟩, ha σ H1 g1.ok _ fun y x H2 px g2 ry => ?_⟩
  obtain ⟨ob, hob, rfl, al⟩ := g2.ok.at_ _ mem
  refine ⟨p, _, y, rfl, rfl, hob, by rw [List.length_map]; exact hl, k y x px _ _ ((g2.ok.perm hL).write (ψ := cTg t (vxs ++ [(y, x)])) rfl ⟨by rw [List.map_append]; rfl, fun q m => ?_⟩).ok⟩
  rcases List.mem_append.mp m with m | m
  · exact al q m
  · rw [List.mem_singleton.mp m]; exact ry
/-- the list is done: it is read only -/
theorem go_frzT {S : List Addr} {L : List RS} {H0 : Hp} {M : List Addr} {F : List FF} {G : List (Option SF)} (hp : G[i]? = some (some (tRf.is p))) (hM : ∀ a ∈ M, a ∈ S) (hn : p ∉ S) (hS : ∀ a, a ∈ fps L → a ∈ S)
    (k : Go ⟨H0, M, S, L, F, G.set i (some ((tLs K t).is (vxs.map (·.2))))⟩ ts D) : Go ⟨H0, M, p :: S, cell p (cTg t vxs) :: L, F, G⟩ ts D := fun σ H o => by
  obtain ⟨v, h1, h2⟩ := o.slots i _ hp
  obtain rfl : v = .ref p := h2
  obtain ⟨ob, hob, rfl, al⟩ := o.at_ _ (List.mem_cons_self ..)
  have o2 := Ok.drop (N := [p]) o hS hM
  have up : Same (hid (p :: S) H) (hid S H) := hid_less fun a h => List.mem_cons_of_mem _ h
  have o3 := Ok.put (i := i) (v := .ref p) (f := (tLs K t).is (vxs.map (·.2))) o2 ⟨p, _, rfl, (by rw [hid_of hn]; exact hob), all2_tags fun q m => t.mono up (al q m)⟩
  rw [set_self h1] at o3
  exact k σ H o3
/-- an if of two suites whose ends meet -/
theorem go_ifj2 {ι : Type} {P : Bool → Prop} (Wj : ι → Wd) (Pj : ι → Prop) (h : Etx W tt P) (h1 : P true → ∀ nx : L2.St → Hp → Prop, (∀ c, Pj c → ∀ σ H, Ok (Wj c) σ H → nx σ H) → Go W ts { D with nx := nx }) (h2 : P false → ∀ nx : L2.St → Hp → Prop, (∀ c, Pj c → ∀ σ H, Ok (Wj c) σ H → nx σ H) → Go W us { D with nx := nx }) (hk : ∀ c, Pj c → Go (Wj c) vs D) : Go W (tSeq (tIfS tt ts us) vs) D :=
  go_ifx (D := { D with nx := vs D }) h (fun p => h1 p (vs D) fun c pc σ H o => hk c pc σ H o) fun p => h2 p (vs D) fun c pc σ H o => hk c pc σ H o
/-- as ok_P, for the law itself -/
theorem ok_PA {P : Program} {w : World} {mg : Str → Option Value} {base : Heap} {nm qual : Str} {st : Stmt} {f : Addr} {fd : FuncData} {N ps : List Str} {k : Nat} {A : α → List SF} {wt : Ty β} {pre : α → Prop} {g : α → β} (hroom : Room (k + 1) callerA)
    (F : Fun K nm qual st f fd) (S : FnScope N ps (defScope st)) (hl : ∀ x, (A x).length = ps.length)
    (body : ∀ (cdv : Value) (s : Shared) (H0 : Hp) (S : List Addr) (x : α) (Q : VK) (E : XK), Room k (callerA.deeper (envOfC qual (defScope st) s.heap.objs.size f cdv)) → pre x → Rt [] S H0 wt (fun y => y = g x) Q →
      ∃ t, PSs (cxOf CX0 P w K mg base N qual (defScope st) f cdv callerA [] s H0 E).nox (defBody st) t ∧ Go ⟨H0, [], S, [], [], (A x).map some ++ List.replicate (N.length - ps.length) none⟩ t { nx := fun _ H' => Q .non H', rt := Q }) :
    RunAt P w K mg base f fd ps (spP A wt pre g) := by
  refine run_at hroom F S (fun vs H Q E h => ?_) (fun cdv s H vs Q E hr h => ?_)
  · obtain ⟨S', x, _, _, _, _, ft, _⟩ := h
    rw [ft.length, hl]
  · obtain ⟨S', x, al, nd, sub, cc, ft, hp, out⟩ := h
    obtain ⟨t, h1, h2⟩ := body cdv s H S' x Q E hr hp (fun v y H' => out v y H')
    refine ⟨t, h1, h2 _ _ ⟨nd, fun a m => ⟨sub a m, .inl m⟩, cc, (fun a m => nomatch m), al, Bt.refl, ?_, (fun f m => nomatch m), fun i f' q => ?_⟩⟩
    · have e1 := ft.length
      have e2 := hl x
      show (L2.start N vs).length = _
      unfold L2.start
      simp only [List.length_append, List.length_map, List.length_replicate]
      omega
    · exact start_slots (by rw [ft.length, hl]) ft q
theorem ok_forget {σ : L2.St} {H : Hp} {j : Nat} {o : Option V} (h : Ok { W with G := W.G.set j none } σ H) : Ok { W with G := W.G.set j none } (σ.set j o) H :=
  ⟨h.nod, h.own, h.at_, h.ms, h.al, h.bt, by show (σ.set j o).length = _; rw [List.length_set]; exact h.len, h.facts, fun k g q => by
    have q : (W.G.set j none)[k]? = some (some g) := q
    by_cases e : j = k
    · subst e
      by_cases l : j < W.G.length
      · rw [List.getElem?_set, if_pos rfl, if_pos l] at q; cases q
      · rw [List.getElem?_set, if_pos rfl, if_neg l] at q; cases q
    · obtain ⟨w, h1, h2⟩ := h.slots k g q
      exact ⟨w, by rw [List.getElem?_set, if_neg e]; exact h1, h2⟩⟩
theorem ok_hush {σ : L2.St} {H : Hp} {j : Nat} (h : Ok W σ H) : Ok { W with G := W.G.set j none } σ H :=
  ⟨h.nod, h.own, h.at_, h.ms, h.al, h.bt, by show σ.length = (W.G.set j none).length; rw [List.length_set]; exact h.len, h.facts, fun k g q => by
    have q : (W.G.set j none)[k]? = some (some g) := q
    by_cases e : j = k
    · subst e
      by_cases l : j < W.G.length
      · rw [List.getElem?_set, if_pos rfl, if_pos l] at q; cases q
      · rw [List.getElem?_set, if_pos rfl, if_neg l] at q; cases q
    · rw [List.getElem?_set, if_neg e] at q
      exact h.slots k g q⟩
end
end Cs
set_option maxHeartbeats 4000000
namespace Cs
open PySem PySem.Spec PyProof.Rows L2
def topS (i : Nat) : Stmt := PySem.Challenge.pw_consol_k57_books_of_postings.main.body.getD i (.Pass ⟨0, 0, 0, 0⟩)
local macro_rules | `(tactic| walk_at "rd") => `(tactic| (first
  | (refine ⟨_, rfl, ?_⟩)
  | (refine ⟨_, _, rfl, rfl, ?_⟩)
  | (refine .inl ⟨_, rfl, ?_⟩)
  | (refine .inr ⟨_, rfl, ?_⟩)
  | (refine ⟨_, _, _, _, rfl, rfl, SqL.of upd_same, rfl, ?_⟩)
  | (refine ⟨_, _, _, _, rfl, rfl, upd_same, rfl, ?_⟩)
  | (refine ⟨_, ?xs, _, ?v, rfl, rfl, ?h, ?x, ?_⟩; (case h => first | exact SqL.of (by assumption) | exact SqT.of (by assumption) | assumption); (case x => first | rfl | exact atI_nat (j := 0) rfl | exact atI_nat (j := 1) rfl))))
local macro_rules | `(tactic| walk_at "isi") => `(tactic| (first
  | (refine ⟨_, _, _, _, _, rfl, .ty _, .base (.int _), kit_ty kit_it, ?_⟩)
  | (refine ⟨_, _, _, _, _, rfl, .ty _, .base (.int _), kit_ty kit_ib, ?_⟩)
  | (refine ⟨_, _, _, _, _, rfl, .ty _, .base (.int _), kit_ty kit_ii, ?_⟩)
  | (refine ⟨_, _, _, _, _, rfl, .ty _, .base (.bl _), kit_ty kit_bt, ?_⟩)
  | (refine ⟨_, _, _, _, _, rfl, .ty _, .base (.bl _), kit_ty kit_bb, ?_⟩)
  | (refine ⟨_, _, _, _, _, rfl, .ty _, .base (.bl _), kit_ty kit_bi, ?_⟩)))
local macro_rules | `(tactic| walk_at "ev") => `(tactic| (first
  | exact ev_var rfl
  | exact ev_int
  | exact ev_str
  | exact ev_bl
  | exact ev_non
  | (refine ev_add ?_ ?_ <;> walk_at "ev")
  | (refine ev_sub ?_ ?_ <;> walk_at "ev")
  | (refine ev_mul ?_ ?_ ?_ <;> (try walk_at "ev"))
  | (refine ev_neg ?_ <;> walk_at "ev")
  | (refine ev_num ?_ <;> walk_at "ev")
  | (refine ev_den ?_ <;> walk_at "ev")
  | (refine ev_cmp ?_ ?_ <;> walk_at "ev")
  | (refine ev_eqI ?_ ?_ <;> walk_at "ev")
  | (refine ev_eqS ?_ ?_ <;> walk_at "ev")
  | (refine ev_neI ?_ ?_ <;> walk_at "ev")
  | (refine ev_neS ?_ ?_ <;> walk_at "ev")
  | (refine ev_inS ?_ ?_ <;> walk_at "ev")
  | (refine ev_niS ?_ ?_ <;> walk_at "ev")
  | (refine ev_len ?_ <;> walk_at "ev")
  | (refine ev_list ?_ <;> walk_at "ev")
  | (refine ev_listRev ?_ <;> walk_at "ev")
  | (refine ev_int1 ?_ <;> walk_at "ev")))
local macro_rules | `(tactic| walk_at "ea") => `(tactic| (first
  | exact ea_nil
  | (refine ea_cons ?_ ?_ <;> (first | walk_at "ev" | walk_at "ea" | skip))))
local macro_rules | `(tactic| walk_at "sb") => `(tactic| (first | exact True.intro | (refine And.intro rfl ?_; walk_at "sb")))
section
variable {P : Program} {w : World} {K : PySem.W.Frag} {mg : Str → Option Value} {base : Heap}
abbrev sState : Stmt := topS 16
theorem scState : FnScope ["script"] ["script"] (defScope sState) := ⟨rfl, rfl, rfl, by decide +kernel, rfl, by decide +kernel, by decide +kernel⟩
abbrev sDraw : Stmt := topS 17
theorem scDraw : FnScope ["state", "many", "value", "cell", "first"] ["state", "many"] (defScope sDraw) := ⟨rfl, rfl, rfl, by decide +kernel, rfl, by decide +kernel, by decide +kernel⟩
theorem ok_state {f : Addr} {fd : FuncData} {k : Nat} (F : Fun K "_law_state" "_law_state" sState f fd) (z_list : mg "list" = none) : FnOk P w K mg base CX0 (k + 1) f fd ["script"] (spStateA K) := by
  refine F.ok scState (fun vs H Q E h => ?_) (fun cdv A outer s H vs Q E hr h => ?_)
  · obtain ⟨a, ns, rfl, _⟩ := h
    rfl
  · obtain ⟨a, ns, rfl, hS, q⟩ := h
    refine ⟨_, (pss_one (ps_ret (pe_lst (pa_cons (pe_callTy call_list_of (by rfl) z_list (by decide +kernel) (pa_cons (pv 0) pa_nil)) (pa_cons pe_int (pa_cons pe_int (pa_cons pe_int (pa_cons pe_int pa_nil)))))))), ?_⟩
    refine ⟨_, rfl, _, _, rfl, .inl hS, fun l hl => ?_⟩
    refine ⟨by show 5 ≤ sizeLine; decide, fun d hd => ?_⟩
    have hdl : d ≠ l := fun e => by rw [e, upd_same] at hd; cases hd
    have hd0 : H d = none := by rw [upd_ne hdl] at hd; exact hd
    refine q d l _ ((Same.new hl).trans (Same.new hd)) hd0 hl ⟨0, 0, 1, 0, upd_same, .inl (.inl ?_), hdl.symm, Int.le_refl _⟩
    rw [upd_ne hdl.symm, upd_same]
theorem fst_bd (x : Int) : (x % 2147483647).natAbs < 2 ^ 64 := by
  have h1 := Int.emod_nonneg x (show (2147483647 : Int) ≠ 0 by decide)
  have h2 := Int.emod_lt_of_pos x (show (0 : Int) < 2147483647 by decide)
  omega
theorem ok_drawS {f : Addr} {fd : FuncData} {k : Nat} (F : Fun K "_law_draw" "_law_draw" sDraw f fd) (z_len : mg "len" = none) (z_int : mg "int" = none) : FnOk P w K mg base CX0 (k + 1) f fd ["state", "many"] (spDrawSA K) := by
  refine F.ok scDraw (fun vs H Q E h => ?_) (fun cdv A outer s H vs Q E hr h => ?_)
  · obtain ⟨a, m, l, ns, rfl, _⟩ := h
    rfl
  · obtain ⟨d, m, l, ns, rfl, m0, mb, ⟨b, c, e, g, hd, hl, ne, b0⟩, q⟩ := h
    refine ⟨_, (pss_cons (ps_if (PW.pt (pw_and (pt_cmpR op_gt (pe_ix ix_list (pv 0) pe_int (fun _ _ => rfl)) pe_int (nomark _)) (pw_and1 (pt_cmpR op_gt (pe_ix ix_list (pv 0) pe_int (fun _ _ => rfl)) pe_int (nomark _))))) (pss_cons (ps_set (i := 2) scDraw.nd rfl (Or.inl rfl) (pe_op op_mod (pe_callTy call_int1 (by rfl) z_int (by decide +kernel) (pa_cons (pe_ix ix_list (pv 0) pe_int (fun _ _ => rfl)) pa_nil)) (pv 1)))
      (pss_cons (ps_asg (pe_op op_fdivA (pe_ix ix_list (pv 0) pe_int (fun _ _ => rfl)) (pv 1)) (pg_sub (pv 0) pe_int set_list))
      (pss_cons (ps_asg (pe_op op_sub (pe_ix ix_list (pv 0) pe_int (fun _ _ => rfl)) pe_int) (pg_sub (pv 0) pe_int set_list))
      (pss_one (ps_ret (pv 2)))))) pss_nil)
      (pss_cons (ps_set (i := 3) scDraw.nd rfl (Or.inl rfl) (pe_op op_add (pe_ix ix_list (pv 0) pe_int (fun _ _ => rfl)) (pe_op op_mulA pe_int (pe_ix ix_list (pv 0) pe_int (fun _ _ => rfl)))))
      (pss_cons (ps_if (pt_cmpR op_lt (pe_ix ix_list (pv 0) pe_int (fun _ _ => rfl)) (pe_callB call_len_seq (by rfl) z_len PySem.boot_len (pa_cons (pe_ix ix_list (pv 0) pe_int (fun _ _ => rfl)) pa_nil)) (nomark _)) (pss_one (ps_set (i := 3) scDraw.nd rfl (Or.inl rfl) (pe_ix ix_list (pe_ix ix_list (pv 0) pe_int (fun _ _ => rfl)) (pe_ix ix_list (pv 0) pe_int (fun _ _ => rfl)) (fun _ _ => rfl)))) pss_nil)
      (pss_cons (ps_asg (pe_op op_add (pe_ix ix_list (pv 0) pe_int (fun _ _ => rfl)) pe_int) (pg_sub (pv 0) pe_int set_list))
      (pss_cons (ps_if (pt_cmpR op_ge (pv 3) (pe_op op_pow pe_int pe_int) (nomark _)) (pss_cons (ps_asg (pe_op op_fdivA (pv 3) (pv 1)) (pg_sub (pv 0) pe_int set_list))
      (pss_cons (ps_asg pe_int (pg_sub (pv 0) pe_int set_list))
      (pss_one (ps_ret (pe_op op_mod (pe_callTy call_int1 (by rfl) z_int (by decide +kernel) (pa_cons (pv 3) pa_nil)) (pv 1)))))) pss_nil)
      (pss_cons (ps_set (i := 4) scDraw.nd rfl (Or.inl rfl) (pe_op op_mod (pe_callTy call_int1 (by rfl) z_int (by decide +kernel) (pa_cons (pe_op op_add (pe_op op_add (pe_op op_mulA (pv 3) pe_int) (pe_op op_mulA (pe_ix ix_list (pv 0) pe_int (fun _ _ => rfl)) pe_int)) (pe_ix ix_list (pv 0) pe_int (fun _ _ => rfl))) pa_nil)) pe_int))
      (pss_cons (ps_asg (pe_op op_mod (pe_callTy call_int1 (by rfl) z_int (by decide +kernel) (pa_cons (pe_op op_add (pe_op op_add (pe_op op_mulA (pv 4) pe_int) (pe_op op_mulA (pv 4) (pv 4))) pe_int) pa_nil)) pe_int) (pg_sub (pv 0) pe_int set_list))
      (pss_one (ps_ret (pe_op op_mod (pe_callTy call_int1 (by rfl) z_int (by decide +kernel) (pa_cons (pe_op op_fdivA (pe_ix ix_list (pv 0) pe_int (fun _ _ => rfl)) pe_int) pa_nil)) (pv 1))))))))))), ?_⟩
    have mb9 : m.natAbs < 2 ^ 9000 := Nat.lt_trans mb (Nat.pow_lt_pow_right (by decide) (by decide))
    have fin : ∀ z : Int, 0 ≤ z % m ∧ z % m < m := fun z => ⟨Int.emod_nonneg _ (by omega), Int.emod_lt_of_pos _ m0⟩
    repeat walk_at "rd"
    refine ite2 (fun h1 => ?_) (fun h1 => ?_)
    · repeat walk_at "rd"
      refine ite2 (fun h2 => ?_) (fun h2 => ?_)
      · repeat walk_at "rd"
        refine ⟨m0, ?_⟩
        repeat walk_at "rd"
        refine ⟨⟨by omega, mb9⟩, ?_⟩
        repeat walk_at "rd"
        exact q _ _ (fin _).1 (fin _).2 (But.upd.trans But.upd) (stA_of hl ne (But.upd.trans But.upd) upd_same b0)
      · repeat walk_at "rd"
        refine ⟨mulL (by decide), ?_⟩
        repeat walk_at "rd"
        refine ⟨_, _, rfl, .inl hl, ?_⟩
        repeat walk_at "rd"
        refine ite2 (fun h3 => ?_) (fun h3 => ?_)
        · repeat walk_at "rd"
          obtain ⟨z, hz⟩ := cell_at (ns := ns) b0 (by have := of_decide_eq_true h3; rw [List.length_map] at this; exact this)
          refine ⟨_, _, _, _, rfl, rfl, hl, hz, ?_⟩
          clear hz
          generalize hcell : (z : Int) = cell
          repeat walk_at "rd"
          refine ⟨⟨by decide, by decide, by decide⟩, ?_⟩
          repeat walk_at "rd"
          refine ite2 (fun h4 => ?_) (fun h4 => ?_)
          · repeat walk_at "rd"
            refine ⟨⟨by omega, mb9⟩, ?_⟩
            repeat walk_at "rd"
            refine ⟨m0, ?_⟩
            exact q _ _ (fin _).1 (fin _).2 ((But.upd.trans But.upd).trans But.upd) (stA_of hl ne ((But.upd.trans But.upd).trans But.upd) upd_same (show (0 : Int) ≤ b + 1 by omega))
          · repeat walk_at "rd"
            refine ⟨mulR (by decide), ?_⟩
            repeat walk_at "rd"
            refine ⟨mulR (by decide), ?_⟩
            repeat walk_at "rd"
            refine ⟨(show (0 : Int) < 2147483647 by decide), ?_⟩
            repeat walk_at "rd"
            refine ⟨mulR (by decide), ?_⟩
            repeat walk_at "rd"
            refine ⟨mulL (fst_bd _), ?_⟩
            repeat walk_at "rd"
            refine ⟨(show (0 : Int) < 2147483629 by decide), ?_⟩
            repeat walk_at "rd"
            refine ⟨⟨by decide, by decide⟩, ?_⟩
            repeat walk_at "rd"
            refine ⟨m0, ?_⟩
            exact q _ _ (fin _).1 (fin _).2 (But.upd.trans But.upd) (stA_of hl ne (But.upd.trans But.upd) upd_same (show (0 : Int) ≤ b + 1 by omega))
        · generalize hcell : (e + 7919 * b : Int) = cell
          repeat walk_at "rd"
          refine ⟨⟨by decide, by decide, by decide⟩, ?_⟩
          repeat walk_at "rd"
          refine ite2 (fun h4 => ?_) (fun h4 => ?_)
          · repeat walk_at "rd"
            refine ⟨⟨by omega, mb9⟩, ?_⟩
            repeat walk_at "rd"
            refine ⟨m0, ?_⟩
            exact q _ _ (fin _).1 (fin _).2 ((But.upd.trans But.upd).trans But.upd) (stA_of hl ne ((But.upd.trans But.upd).trans But.upd) upd_same (show (0 : Int) ≤ b + 1 by omega))
          · repeat walk_at "rd"
            refine ⟨mulR (by decide), ?_⟩
            repeat walk_at "rd"
            refine ⟨mulR (by decide), ?_⟩
            repeat walk_at "rd"
            refine ⟨(show (0 : Int) < 2147483647 by decide), ?_⟩
            repeat walk_at "rd"
            refine ⟨mulR (by decide), ?_⟩
            repeat walk_at "rd"
            refine ⟨mulL (fst_bd _), ?_⟩
            repeat walk_at "rd"
            refine ⟨(show (0 : Int) < 2147483629 by decide), ?_⟩
            repeat walk_at "rd"
            refine ⟨⟨by decide, by decide⟩, ?_⟩
            repeat walk_at "rd"
            refine ⟨m0, ?_⟩
            exact q _ _ (fin _).1 (fin _).2 (But.upd.trans But.upd) (stA_of hl ne (But.upd.trans But.upd) upd_same (show (0 : Int) ≤ b + 1 by omega))
    · repeat walk_at "rd"
      refine ⟨mulL (by decide), ?_⟩
      repeat walk_at "rd"
      refine ⟨_, _, rfl, .inl hl, ?_⟩
      repeat walk_at "rd"
      refine ite2 (fun h3 => ?_) (fun h3 => ?_)
      · repeat walk_at "rd"
        obtain ⟨z, hz⟩ := cell_at (ns := ns) b0 (by have := of_decide_eq_true h3; rw [List.length_map] at this; exact this)
        refine ⟨_, _, _, _, rfl, rfl, hl, hz, ?_⟩
        clear hz
        generalize hcell : (z : Int) = cell
        repeat walk_at "rd"
        refine ⟨⟨by decide, by decide, by decide⟩, ?_⟩
        repeat walk_at "rd"
        refine ite2 (fun h4 => ?_) (fun h4 => ?_)
        · repeat walk_at "rd"
          refine ⟨⟨by omega, mb9⟩, ?_⟩
          repeat walk_at "rd"
          refine ⟨m0, ?_⟩
          exact q _ _ (fin _).1 (fin _).2 ((But.upd.trans But.upd).trans But.upd) (stA_of hl ne ((But.upd.trans But.upd).trans But.upd) upd_same (show (0 : Int) ≤ b + 1 by omega))
        · repeat walk_at "rd"
          refine ⟨mulR (by decide), ?_⟩
          repeat walk_at "rd"
          refine ⟨mulR (by decide), ?_⟩
          repeat walk_at "rd"
          refine ⟨(show (0 : Int) < 2147483647 by decide), ?_⟩
          repeat walk_at "rd"
          refine ⟨mulR (by decide), ?_⟩
          repeat walk_at "rd"
          refine ⟨mulL (fst_bd _), ?_⟩
          repeat walk_at "rd"
          refine ⟨(show (0 : Int) < 2147483629 by decide), ?_⟩
          repeat walk_at "rd"
          refine ⟨⟨by decide, by decide⟩, ?_⟩
          repeat walk_at "rd"
          refine ⟨m0, ?_⟩
          exact q _ _ (fin _).1 (fin _).2 (But.upd.trans But.upd) (stA_of hl ne (But.upd.trans But.upd) upd_same (show (0 : Int) ≤ b + 1 by omega))
      · generalize hcell : (e + 7919 * b : Int) = cell
        repeat walk_at "rd"
        refine ⟨⟨by decide, by decide, by decide⟩, ?_⟩
        repeat walk_at "rd"
        refine ite2 (fun h4 => ?_) (fun h4 => ?_)
        · repeat walk_at "rd"
          refine ⟨⟨by omega, mb9⟩, ?_⟩
          repeat walk_at "rd"
          refine ⟨m0, ?_⟩
          exact q _ _ (fin _).1 (fin _).2 ((But.upd.trans But.upd).trans But.upd) (stA_of hl ne ((But.upd.trans But.upd).trans But.upd) upd_same (show (0 : Int) ≤ b + 1 by omega))
        · repeat walk_at "rd"
          refine ⟨mulR (by decide), ?_⟩
          repeat walk_at "rd"
          refine ⟨mulR (by decide), ?_⟩
          repeat walk_at "rd"
          refine ⟨(show (0 : Int) < 2147483647 by decide), ?_⟩
          repeat walk_at "rd"
          refine ⟨mulR (by decide), ?_⟩
          repeat walk_at "rd"
          refine ⟨mulL (fst_bd _), ?_⟩
          repeat walk_at "rd"
          refine ⟨(show (0 : Int) < 2147483629 by decide), ?_⟩
          repeat walk_at "rd"
          refine ⟨⟨by decide, by decide⟩, ?_⟩
          repeat walk_at "rd"
          refine ⟨m0, ?_⟩
          exact q _ _ (fin _).1 (fin _).2 (But.upd.trans But.upd) (stA_of hl ne (But.upd.trans But.upd) upd_same (show (0 : Int) ≤ b + 1 by omega))
abbrev sFraction : Stmt := topS 10
theorem scFraction : FnScope ["p", "q", "divisor"] ["p", "q"] (defScope sFraction) := ⟨rfl, rfl, rfl, by decide +kernel, rfl, by decide +kernel, by decide +kernel⟩
theorem ok_fraction {f : Addr} {fd : FuncData} {k : Nat} (F : FunD K "fraction" "fraction" (defArgs sFraction) (defBody sFraction) (defScope sFraction) [.int 1] [] f fd) (m_gcd : mg "gcd" = some (.builtin "math.gcd")) : FnOk P w K mg base CX0 (k + 1) f fd ["p", "q"] spFrac := by
  refine F.ok scFraction (fun vs H Q E h => ?_) (fun cdv A outer s H vs Q E hr h => ?_)
  · obtain ⟨a, b, rfl, _⟩ := h
    rfl
  · obtain ⟨p, q, rfl, q0, hq, out⟩ := h
    refine ⟨_, (pss_cons (ps_if (pt_cmpR op_eq (pv 1) pe_int (nomark _)) (pss_one ps_never) pss_nil)
      (pss_cons (ps_set (i := 2) scFraction.nd rfl (Or.inl rfl) (pe_callBfun cr_gcd (by rfl) m_gcd (pa_cons (pv 0) (pa_cons (pv 1) pa_nil))))
      (pss_cons (ps_if (pt_cmpR op_lt (pv 1) pe_int (nomark _)) (pss_one (ps_set (i := 2) scFraction.nd rfl (Or.inl rfl) (pe_un un_neg (pv 2)))) pss_nil)
      (pss_one (ps_ret (pe_tup (pa_cons (pe_op op_fdivA (pv 0) (pv 2)) (pa_cons (pe_op op_fdivA (pv 1) (pv 2)) pa_nil)))))))), ?_⟩
    have hg := gcd_pos p q q0
    have hgb : ((Nat.gcd p.natAbs q.natAbs : Nat) : Int).natAbs < 2 ^ 9000 := by
      rw [Int.natAbs_natCast]
      exact Nat.lt_of_le_of_lt (Nat.gcd_le_right _ (by omega)) hq
    have en := frac_num p q q0
    have ed := frac_den p q q0
    refine ⟨_, rfl, rfl, _, rfl, ite2 (fun h0 => absurd (V.int.inj (of_decide_eq_true h0)) q0) (fun h0 => ?_)⟩
    refine ⟨_, rfl, _, rfl, _, _, rfl, ?_⟩
    repeat walk_at "rd"
    refine ite2 (fun h1 => ?_) (fun h1 => ?_)
    · have h1' : q < 0 := of_decide_eq_true h1
      rw [if_pos h1'] at en ed
      repeat walk_at "rd"
      refine ⟨⟨by omega, by rw [Int.natAbs_neg]; exact hgb⟩, ?_⟩
      repeat walk_at "rd"
      refine ⟨⟨by omega, by rw [Int.natAbs_neg]; exact hgb⟩, by show 2 ≤ sizeLine; decide, fun t ht => ?_⟩
      refine out t _ (Same.new ht) ht (upd_same.trans ?_)
      show some (HO.tup [.int (p.fdiv _), .int (q.fdiv _)]) = some (HO.tup [.int _, .int _])
      rw [en, ed]
    · have h1' : ¬ q < 0 := fun z => h1 (decide_eq_true z)
      rw [if_neg h1'] at en ed
      repeat walk_at "rd"
      refine ⟨⟨by omega, hgb⟩, ?_⟩
      repeat walk_at "rd"
      refine ⟨⟨by omega, hgb⟩, by show 2 ≤ sizeLine; decide, fun t ht => ?_⟩
      refine out t _ (Same.new ht) ht (upd_same.trans ?_)
      show some (HO.tup [.int (p.fdiv _), .int (q.fdiv _)]) = some (HO.tup [.int _, .int _])
      rw [en, ed]
abbrev sLowest : Stmt := topS 18
theorem scLowest : FnScope ["p", "q", "first", "second", "_law_turn"] ["p", "q"] (defScope sLowest) := ⟨rfl, rfl, rfl, by decide +kernel, rfl, by decide +kernel, by decide +kernel⟩
theorem ok_lowest {f : Addr} {fd : FuncData} {k : Nat} (F : Fun K "_law_lowest" "_law_lowest" sLowest f fd) (z_range : mg "range" = none) (z_int : mg "int" = none) (z_abs : mg "abs" = none) : FnOk P w K mg base CX0 (k + 1) f fd ["p", "q"] spLow := by
  refine F.ok scLowest (fun vs H Q E h => ?_) (fun cdv A outer s H vs Q E hr h => ?_)
  · obtain ⟨a, b, rfl, _⟩ := h
    rfl
  · obtain ⟨p, q, rfl, q0, hp, hq, out⟩ := h
    refine ⟨_, (pss_cons (ps_set (i := 2) scLowest.nd rfl (Or.inl rfl) (pe_callB call_abs (by rfl) z_abs (by decide +kernel) (pa_cons (pv 0) pa_nil)))
      (pss_cons (ps_set (i := 3) scLowest.nd rfl (Or.inl rfl) (pv 1))
      (pss_cons (ps_for PassesOwn.never rfl (pi_range1 rfl z_range (pa_cons pe_int pa_nil)) (pg_name (i := 4) scLowest.nd rfl (Or.inl rfl)) (pss_cons (ps_if (pt_cmpR op_eq (pv 3) pe_int (nomark _)) (pss_one ps_break) pss_nil)
      (pss_one (ps_par (i := 2) (j := 3) rfl scLowest.nd rfl rfl (by decide) rfl rfl (pa_cons (pv 3) (pa_cons (pe_op op_mod (pe_callTy call_int1 (by rfl) z_int (by decide +kernel) (pa_cons (pv 2) pa_nil)) (pv 3)) pa_nil)) rfl))))
      (pss_cons (ps_if (pt_cmpR op_eq (pv 2) pe_int (nomark _)) (pss_one (ps_ret (pe_tup (pa_cons pe_int (pa_cons pe_int pa_nil))))) pss_nil)
      (pss_one (ps_ret (pe_tup (pa_cons (pe_op op_fdivA (pv 0) (pv 2)) (pa_cons (pe_op op_fdivA (pv 1) (pv 2)) pa_nil))))))))), ?_⟩
    obtain ⟨b, rfl⟩ : ∃ b : Nat, q = (b : Int) := ⟨q.toNat, by omega⟩
    have hq' : b < 2 ^ 2400 := by
      rw [Int.natAbs_natCast] at hq
      exact hq
    have hab : p.natAbs * b < 2 ^ 4800 := Nat.lt_of_lt_of_eq (Nat.mul_lt_mul'' hp hq') (Nat.pow_add 2 2400 2400).symm
    have hg := gcd_pos p (b : Int) (by omega)
    rw [Int.natAbs_natCast] at hg
    have hgb : ((Nat.gcd p.natAbs b : Nat) : Int).natAbs < 2 ^ 9000 := by
      rw [Int.natAbs_natCast]
      exact Nat.lt_of_le_of_lt (Nat.gcd_le_right _ (by omega)) (Nat.lt_trans hq' (Nat.pow_lt_pow_right (by decide) (by decide)))
    have en := frac_num p (b : Int) (by omega)
    have ed := frac_den p (b : Int) (by omega)
    rw [if_neg (by omega), Int.natAbs_natCast] at en ed
    have habs : (if p < 0 then -p else p) = (p.natAbs : Int) := by split <;> omega
    refine ⟨_, rfl, _, rfl, ?_⟩
    dsimp only [gName, tSeq]
    refine ⟨_, rfl, ?_⟩
    refine ⟨5000, rfl, by decide, by decide, for_range (n := 5000) (fun i σ H' => ∃ (x y : Nat) (k4 : Option V), σ = [some (.int p), some (.int b), some (.int x), some (.int y), k4] ∧ H' = H ∧ ((i ≤ 4801 ∧ EG (Nat.gcd p.natAbs b) 4800 i x y) ∨ (y = 0 ∧ x = Nat.gcd p.natAbs b))) ?_ ?_ ?_⟩
    · refine ⟨p.natAbs, b, none, ?_, rfl, .inl ⟨by omega, EG.start hab⟩⟩
      rw [← habs]
      rfl
    · intro i σ H1 hi hP
      obtain ⟨x, y, k4, rfl, rfl, hP⟩ := hP
      refine ⟨_, rfl, rfl, _, rfl, ite2 (fun h0 => ?_) (fun h0 => ?_)⟩
      · have hy : y = 0 := by have := V.int.inj (of_decide_eq_true h0); omega
        have hx : x = Nat.gcd p.natAbs b := by
          rcases hP with ⟨_, hE⟩ | ⟨_, hx⟩
          · subst hy; exact hE.zero
          · exact hx
        subst hy
        subst hx
        refine ⟨_, rfl, rfl, _, rfl, ite2 (fun h0 => absurd (V.int.inj (of_decide_eq_true h0)) (by omega)) (fun _ => ?_)⟩
        repeat walk_at "rd"
        refine ⟨⟨by omega, hgb⟩, ?_⟩
        repeat walk_at "rd"
        refine ⟨⟨by omega, hgb⟩, by show 2 ≤ sizeLine; decide, fun t ht => ?_⟩
        refine out t _ (Same.new ht) ht (upd_same.trans ?_)
        show some (HO.tup [.int (p.fdiv _), .int ((b : Int).fdiv _)]) = some (HO.tup [.int _, .int _])
        rw [en, ed]
      · have hy : 0 < y := by
          rcases Nat.eq_zero_or_pos y with z | z
          · subst z; exact absurd (decide_eq_true rfl) h0
          · exact z
        rcases hP with ⟨hi2, hE⟩ | ⟨z, _⟩
        · have hi3 : i ≤ 4800 := by
            rcases Nat.lt_or_ge i 4801 with z | z
            · omega
            · have e : i = 4801 := by omega
              subst e
              have := hE.last
              omega
          repeat walk_at "rd"
          refine ⟨(show (0 : Int) < (y : Int) by omega), ?_⟩
          repeat walk_at "rd"
          exact ⟨_, _, rfl, y, x % y, some (.int (0 + (i : Int))), rfl, rfl, .inl ⟨by omega, hE.step hy hi3⟩⟩
        · omega
    · intro σ H1 hP
      obtain ⟨x, y, k4, rfl, rfl, hP⟩ := hP
      rcases hP with ⟨z, _⟩ | ⟨hy, hx⟩
      · omega
      · subst hy
        subst hx
        refine ⟨_, rfl, rfl, _, rfl, ite2 (fun h0 => absurd (V.int.inj (of_decide_eq_true h0)) (by omega)) (fun _ => ?_)⟩
        repeat walk_at "rd"
        refine ⟨⟨by omega, hgb⟩, ?_⟩
        repeat walk_at "rd"
        refine ⟨⟨by omega, hgb⟩, by show 2 ≤ sizeLine; decide, fun t ht => ?_⟩
        refine out t _ (Same.new ht) ht (upd_same.trans ?_)
        show some (HO.tup [.int (p.fdiv _), .int ((b : Int).fdiv _)]) = some (HO.tup [.int _, .int _])
        rw [en, ed]
def AFr2 (K : PySem.W.Frag) (x : Rat × Rat) : List SF := [(tFr K).is x.1, (tFr K).is x.2]
abbrev spPlus (K : PySem.W.Frag) : Sp := spP (AFr2 K) (tFr K) (fun x => Sz 4000 x.1 ∧ Sz 4000 x.2) (fun x => x.1 + x.2)
abbrev spTotal (K : PySem.W.Frag) : Sp := spP (fun xs : List Rat => [(tLs K (tFr K)).is xs]) (tFr K) (fun xs => (∀ r ∈ xs, Sz 700 r) ∧ xs.length ≤ 5) rsum
abbrev sPlus : Stmt := topS 11
theorem scPlus : FnScope ["a", "b"] ["a", "b"] (defScope sPlus) := ⟨rfl, rfl, rfl, by decide +kernel, rfl, by decide +kernel, by decide +kernel⟩
theorem ok_plus {f : Addr} {fd : FuncData} {k : Nat} (F : Fun K "plus" "plus" sPlus f fd) (c_fraction : Cal P w K mg base k "fraction" ["p", "q"] spFrac) : FnOk P w K mg base CX0 (k + 1) f fd ["a", "b"] (spPlus K) := by
  refine ok_P F scPlus (fun _ => rfl) fun cdv A outer s H0 S x Q E hr hp out => ⟨_, (pss_one (ps_ret (pe_cal c_fraction hr (by rfl) (pa_cons (pe_op op_add (pe_op op_mulA (pe_ix ix_tup (pv 0) pe_int (fun _ _ => rfl)) (pe_ix ix_tup (pv 1) pe_int (fun _ _ => rfl))) (pe_op op_mulA (pe_ix ix_tup (pv 1) pe_int (fun _ _ => rfl)) (pe_ix ix_tup (pv 0) pe_int (fun _ _ => rfl)))) (pa_cons (pe_op op_mulA (pe_ix ix_tup (pv 0) pe_int (fun _ _ => rfl)) (pe_ix ix_tup (pv 1) pe_int (fun _ _ => rfl))) pa_nil))))), ?_⟩
  obtain ⟨h, g⟩ := hp
  refine go_end (y := x.1 + x.2) (ev_is (ev_frc (ev_add (ev_mul (ev_num (ev_var rfl)) (ev_den (ev_var rfl)) ?_) (ev_mul (ev_num (ev_var rfl)) (ev_den (ev_var rfl)) ?_)) (ev_mul (ev_den (ev_var rfl)) (ev_den (ev_var rfl)) ?_) ?_ ?_) ?_) out
  · exact mulB h.nn g.dd (by decide) (by decide)
  · exact mulB g.nn h.dd (by decide) (by decide)
  · exact mulB h.dd g.dd (by decide) (by decide)
  · exact Int.mul_ne_zero (den_ne _) (den_ne _)
  · exact lt9 (pow_lt h.dd g.dd) (by decide)
  · exact add_div _ _
abbrev sTotal : Stmt := topS 12
theorem scTotal : FnScope ["values", "result", "value"] ["values"] (defScope sTotal) := ⟨rfl, rfl, rfl, by decide +kernel, rfl, by decide +kernel, by decide +kernel⟩
theorem ok_total {f zZ : Addr} {fd : FuncData} {k : Nat} (F : Fun K "total" "total" sTotal f fd) (c_plus : Cal P w K mg base k "plus" ["a", "b"] (spPlus K)) (m_ZERO : mg "ZERO" = some (.ref zZ)) (hZ : ∀ H, SqT K H zZ [.int 0, .int 1]) : FnOk P w K mg base CX0 (k + 1) f fd ["values"] (spTotal K) := by
  refine ok_P F scTotal (fun _ => rfl) fun cdv A outer s H0 S xs Q E hr hp out => ⟨_, (pss_cons (ps_set (i := 1) scTotal.nd rfl (Or.inl rfl) (pe_glob (v := .ref zZ) (by rfl) m_ZERO rfl))
      (pss_cons (ps_for PassesOwn.never rfl (pi_list (pv 0)) (pg_name (i := 2) scTotal.nd rfl (Or.inl rfl)) (pss_one (ps_set (i := 1) scTotal.nd rfl (Or.inl rfl) (pe_cal c_plus hr (by rfl) (pa_cons (pv 1) (pa_cons (pv 2) pa_nil))))))
      (pss_one (ps_ret (pv 1))))), ?_⟩
  obtain ⟨hz, hl⟩ := hp
  refine go_set (t := tFr K) (x := 0) (ev_k fun H => ⟨zZ, rfl, hZ H⟩) ?_
  refine go_seq (go_for (iv_list (ev_var rfl)) tgt_name (fun k (_ : Unit) => ([], [some ((tLs K (tFr K)).is xs), some ((tFr K).is (rpre xs k)), none])) (fun _ _ => True) () trivial (fun σ H o => o.sb ?_) (fun k _ x f hx _ => ?_) (fun _ _ σ H o => ?_))
  · walk_at "sb"
  · refine go_set1 (ev_call (z := (_, _)) (ea_cons (ev_var rfl) (ea_cons (ev_var rfl) ea_nil)) ?_) fun σ H o => ⟨(), trivial, o.sb ?_⟩
    · have hk : k < xs.length := (List.getElem?_eq_some_iff.mp hx).1
      refine ⟨(rpre_sz hz k (by omega)).mono (by omega), (hz x (List.mem_of_getElem? hx)).mono (by decide)⟩
    · show Sb [_, some ((tFr K).is (rpre xs k + x)), _] [_, some ((tFr K).is (rpre xs (k + 1))), none]
      rw [rpre_succ hx]
      walk_at "sb"
  · exact go_at o (go_end (y := rpre xs xs.length) (ev_var rfl) out (hp := rpre_all xs))
abbrev spLMinus (K : PySem.W.Frag) : Sp := spP (AFr2 K) (tFr K) (fun x => Sz 1000 x.1 ∧ Sz 1000 x.2) (fun x => x.1 - x.2)
abbrev spLFrac (K : PySem.W.Frag) : Sp := spN (fun x : Addr × Addr × List Int => [cell x.1 (cSt K x.1 x.2.1 x.2.2)]) (fun x => [tRf.is x.1]) (tFr K) (fun _ => True) (fun _ r => Sz 10 r)
theorem s24' {n : Nat} {i : Int} (h : i.natAbs < 2 ^ n) (k : n ≤ 2400) : i.natAbs < 2 ^ 2400 := Nat.lt_of_lt_of_le h (Nat.pow_le_pow_right (by decide) k)
abbrev sLMinus : Stmt := topS 20
theorem scLMinus : FnScope ["a", "b"] ["a", "b"] (defScope sLMinus) := ⟨rfl, rfl, rfl, by decide +kernel, rfl, by decide +kernel, by decide +kernel⟩
theorem ok_lminus {f : Addr} {fd : FuncData} {k : Nat} (F : Fun K "_law_minus" "_law_minus" sLMinus f fd) (c_law_lowest : Cal P w K mg base k "_law_lowest" ["p", "q"] spLow) : FnOk P w K mg base CX0 (k + 1) f fd ["a", "b"] (spLMinus K) := by
  refine ok_P F scLMinus (fun _ => rfl) fun cdv A outer s H0 S x Q E hr hp out => ⟨_, (pss_one (ps_ret (pe_cal c_law_lowest hr (by rfl) (pa_cons (pe_op op_sub (pe_op op_mulA (pe_ix ix_tup (pv 0) pe_int (fun _ _ => rfl)) (pe_ix ix_tup (pv 1) pe_int (fun _ _ => rfl))) (pe_op op_mulA (pe_ix ix_tup (pv 1) pe_int (fun _ _ => rfl)) (pe_ix ix_tup (pv 0) pe_int (fun _ _ => rfl)))) (pa_cons (pe_op op_mulA (pe_ix ix_tup (pv 0) pe_int (fun _ _ => rfl)) (pe_ix ix_tup (pv 1) pe_int (fun _ _ => rfl))) pa_nil))))), ?_⟩
  obtain ⟨h, g⟩ := hp
  refine go_end (y := x.1 - x.2) (ev_is (ev_low (ev_sub (ev_mul (ev_num (ev_var rfl)) (ev_den (ev_var rfl)) ?_) (ev_mul (ev_num (ev_var rfl)) (ev_den (ev_var rfl)) ?_)) (ev_mul (ev_den (ev_var rfl)) (ev_den (ev_var rfl)) ?_) ?_ ?_ ?_) ?_) out
  · exact mulZ h.nn g.dd
  · exact mulZ g.nn h.dd
  · exact mulZ h.dd g.dd
  · have a1 : 0 < x.1.den := x.1.den_pos
    have a2 : 0 < x.2.den := x.2.den_pos
    exact_mod_cast Nat.mul_pos a1 a2
  · have h1 := pow_lt h.nn g.dd
    have h2 := pow_lt g.nn h.dd
    exact s24' (n := 2001) (by
      have := Int.natAbs_sub_le (x.1.num * (x.2.den : Int)) (x.2.num * (x.1.den : Int))
      have e : (2 : Nat) ^ 2001 = 2 ^ (1000 + 1000) + 2 ^ (1000 + 1000) := by rw [← Nat.two_mul, ← Nat.pow_succ']
      rw [e]
      omega) (by decide)
  · exact s24' (pow_lt h.dd g.dd) (by decide)
  · exact sub_div _ _
abbrev sLFrac : Stmt := topS 25
theorem scLFrac : FnScope ["state"] ["state"] (defScope sLFrac) := ⟨rfl, rfl, rfl, by decide +kernel, rfl, by decide +kernel, by decide +kernel⟩
theorem ok_lfrac {f : Addr} {fd : FuncData} {k : Nat} (F : Fun K "_law_fraction" "_law_fraction" sLFrac f fd) (c_law_draw : Cal P w K mg base k "_law_draw" ["state", "many"] (spDrawSA K)) (c_law_lowest : Cal P w K mg base k "_law_lowest" ["p", "q"] spLow) : FnOk P w K mg base CX0 (k + 1) f fd ["state"] (spLFrac K) := by
  refine ok_N F scLFrac (fun _ => rfl) fun cdv A outer s H0 S x Q E hr hp out => ⟨_, (pss_one (ps_ret (pe_cal c_law_lowest hr (by rfl) (pa_cons (pe_op op_sub (pe_cal c_law_draw hr (by rfl) (pa_cons (pv 0) (pa_cons pe_int pa_nil))) pe_int) (pa_cons (pe_op op_add pe_int (pe_cal c_law_draw hr (by rfl) (pa_cons (pv 0) (pa_cons pe_int pa_nil)))) pa_nil))))), ?_⟩
  obtain ⟨d, l, ns⟩ := x
  have d41 : ∀ q : Int, q.natAbs < 100 → q.natAbs < 2 ^ 2400 := fun q h => Nat.lt_trans h (Nat.lt_of_lt_of_le (by decide : 100 < 2 ^ 7) (Nat.pow_le_pow_right (by decide) (by decide)))
  refine go_endx (Evx.imp (evx_low (K := K) (evx_sub (evx_drawS (K := K) rfl (List.mem_cons_self ..) ev_int (by decide) (lt8 (by decide))) (Ev.xe ev_int)) (evx_add (Ev.xe ev_int) (evx_drawS (K := K) rfl (List.mem_cons_self ..) ev_int (by decide) (lt8 (by decide)))) ?_) ?_) out (hC := fun c z => z)
  · rintro p q ⟨i', j', ⟨h1, h2⟩, rfl, rfl⟩ ⟨i, j, rfl, ⟨h3, h4⟩, rfl⟩
    exact ⟨by omega, d41 _ (by omega), d41 _ (by omega)⟩
  · rintro r ⟨p, q, ⟨i', j', ⟨h1, h2⟩, rfl, rfl⟩, ⟨i, j, rfl, ⟨h3, h4⟩, rfl⟩, rfl⟩
    exact sz_div (by omega) (by show (i' - 15).natAbs < 1024; omega) (by show (1 + j).natAbs < 1024; omega)
end
end Cs
set_option maxHeartbeats 4000000
namespace Cs
open PySem PySem.Spec PyProof.Rows L2
local macro_rules | `(tactic| walk_at "rd") => `(tactic| (first
  | (refine ⟨_, rfl, ?_⟩)
  | (refine ⟨_, _, rfl, rfl, ?_⟩)
  | (refine .inl ⟨_, rfl, ?_⟩)
  | (refine .inr ⟨_, rfl, ?_⟩)
  | (refine ⟨_, _, _, _, rfl, rfl, SqL.of upd_same, rfl, ?_⟩)
  | (refine ⟨_, _, _, _, rfl, rfl, upd_same, rfl, ?_⟩)
  | (refine ⟨_, ?xs, _, ?v, rfl, rfl, ?h, ?x, ?_⟩; (case h => first | exact SqL.of (by assumption) | exact SqT.of (by assumption) | assumption); (case x => first | rfl | exact atI_nat (j := 0) rfl | exact atI_nat (j := 1) rfl))))
local macro_rules | `(tactic| walk_at "isi") => `(tactic| (first
  | (refine ⟨_, _, _, _, _, rfl, .ty _, .base (.int _), kit_ty kit_it, ?_⟩)
  | (refine ⟨_, _, _, _, _, rfl, .ty _, .base (.int _), kit_ty kit_ib, ?_⟩)
  | (refine ⟨_, _, _, _, _, rfl, .ty _, .base (.int _), kit_ty kit_ii, ?_⟩)
  | (refine ⟨_, _, _, _, _, rfl, .ty _, .base (.bl _), kit_ty kit_bt, ?_⟩)
  | (refine ⟨_, _, _, _, _, rfl, .ty _, .base (.bl _), kit_ty kit_bb, ?_⟩)
  | (refine ⟨_, _, _, _, _, rfl, .ty _, .base (.bl _), kit_ty kit_bi, ?_⟩)))
local macro_rules | `(tactic| walk_at "ev") => `(tactic| (first
  | exact ev_var rfl
  | exact ev_int
  | exact ev_str
  | exact ev_bl
  | exact ev_non
  | (refine ev_add ?_ ?_ <;> walk_at "ev")
  | (refine ev_sub ?_ ?_ <;> walk_at "ev")
  | (refine ev_mul ?_ ?_ ?_ <;> (try walk_at "ev"))
  | (refine ev_neg ?_ <;> walk_at "ev")
  | (refine ev_num ?_ <;> walk_at "ev")
  | (refine ev_den ?_ <;> walk_at "ev")
  | (refine ev_cmp ?_ ?_ <;> walk_at "ev")
  | (refine ev_eqI ?_ ?_ <;> walk_at "ev")
  | (refine ev_eqS ?_ ?_ <;> walk_at "ev")
  | (refine ev_neI ?_ ?_ <;> walk_at "ev")
  | (refine ev_neS ?_ ?_ <;> walk_at "ev")
  | (refine ev_inS ?_ ?_ <;> walk_at "ev")
  | (refine ev_niS ?_ ?_ <;> walk_at "ev")
  | (refine ev_len ?_ <;> walk_at "ev")
  | (refine ev_list ?_ <;> walk_at "ev")
  | (refine ev_listRev ?_ <;> walk_at "ev")
  | (refine ev_int1 ?_ <;> walk_at "ev")))
local macro_rules | `(tactic| walk_at "ea") => `(tactic| (first
  | exact ea_nil
  | (refine ea_cons ?_ ?_ <;> (first | walk_at "ev" | walk_at "ea" | skip))))
local macro_rules | `(tactic| walk_at "sb") => `(tactic| (first | exact True.intro | (refine And.intro rfl ?_; walk_at "sb")))
section
variable {P : Program} {w : World} {K : PySem.W.Frag} {mg : Str → Option Value} {base : Heap}
/-! ### books -/
abbrev Row := Int × Int × Rat × Rat
abbrev Post := Int × List (Str × Rat)
def tRow (K : PySem.W.Frag) : Ty Row := tTp K Row (fun r => [tInt.is r.1, tInt.is r.2.1, (tFr K).is r.2.2.1, (tFr K).is r.2.2.2])
def tPost (K : PySem.W.Frag) : Ty Post := tPr K tInt (tLs K (tPr K tSt (tFr K)))
/-- an account: its name, where its rows stand, the rows -/
structure Acc where
  n : Str
  a : Addr
  rows : List (V × Row)
structure Bk where
  accs : List Acc
  posts : List (V × Post)
def Bk.kvs (s : Bk) : List (Key × V) := s.accs.map fun c => (Sum.inr c.n, V.ref c.a)
def bkFs (pd sd : Addr) : List (Str × V) := [("posted", .ref pd), ("statements", .ref sd)]
def rBk (K : PySem.W.Frag) (CB b pd sd : Addr) (s : Bk) : RS := ⟨b :: pd :: sd :: s.accs.map Acc.a, fun F H => (∃ dx, H b = some (.ins CB dx (bkFs pd sd))) ∧ (H pd = some (.lst (s.posts.map (·.1))) ∧ ∀ p ∈ s.posts, (tPost K).r F p.1 p.2) ∧ H sd = some (.dK s.kvs) ∧ ∀ c ∈ s.accs, H c.a = some (.lst (c.rows.map (·.1))) ∧ ∀ p ∈ c.rows, (tRow K).r F p.1 p.2,
  fun e ⟨h1, ⟨h2, h3⟩, h4, h5⟩ => ⟨h1, ⟨h2, fun p m => (tPost K).mono e (h3 p m)⟩, h4, fun c m => ⟨(h5 c m).1, fun p q => (tRow K).mono e ((h5 c m).2 p q)⟩⟩,
  fun e ⟨⟨dx, h1⟩, ⟨h2, h3⟩, h4, h5⟩ => ⟨⟨dx, by rw [e b (by simp)]; exact h1⟩, ⟨by rw [e pd (by simp)]; exact h2, h3⟩, by rw [e sd (by simp)]; exact h4, fun c m => ⟨by rw [e c.a (by simp only [List.mem_cons]; exact .inr (.inr (.inr (List.mem_map.mpr ⟨c, m, rfl⟩))))]; exact (h5 c m).1, (h5 c m).2⟩⟩⟩
structure BkC (K : PySem.W.Frag) (CB : Addr) : Prop where
  cl : Cls K CB
  n0 : NoAttr K CB "posted"
  n1 : NoAttr K CB "statements"
section
variable {CB b pd sd : Addr} {s : Bk}
theorem bk_ob (m : Str) (h : (bkFs pd sd).lookup m = none) : IsOb (rBk K CB b pd sd s) b CB m := fun F H ⟨⟨dx, h1⟩, _⟩ => ⟨dx, _, h1, h⟩
theorem bk_ins : ∀ F H, (rBk K CB b pd sd s).p F H → ∃ dx fs, H b = some (.ins CB dx fs) := fun F H ⟨⟨dx, h1⟩, _⟩ => ⟨dx, _, h1⟩
theorem bk_posted : SaysF (rBk K CB b pd sd s) b CB "posted" pd := fun F H ⟨⟨dx, h1⟩, _⟩ => ⟨dx, _, h1, rfl⟩
theorem bk_statements : SaysF (rBk K CB b pd sd s) b CB "statements" sd := fun F H ⟨⟨dx, h1⟩, _⟩ => ⟨dx, _, h1, rfl⟩
theorem bk_dict : Says (rBk K CB b pd sd s) sd (.dK s.kvs) := fun F H ⟨_, _, h, _⟩ => h
theorem bk_posts : SaysR (rBk K CB b pd sd s) pd (tPost K) s.posts := fun F H ⟨_, h, _⟩ => h
theorem bk_rows {c : Acc} (m : c ∈ s.accs) : SaysR (rBk K CB b pd sd s) c.a (tRow K) c.rows := fun F H ⟨_, _, _, h⟩ => h c m
theorem kvs_get {s : Bk} {c : Acc} (nd : (s.accs.map Acc.n).Nodup) (m : c ∈ s.accs) : valV s.kvs (Sum.inr c.n) = some (.ref c.a) := by
  obtain ⟨accs, posts⟩ := s
  unfold Bk.kvs valV
  show ((accs.map fun c => ((Sum.inr c.n : Key), V.ref c.a)).find? _).map _ = _
  have nd : (accs.map Acc.n).Nodup := nd
  have m : c ∈ accs := m
  induction accs with
  | nil => cases m
  | cons x l ih =>
    rw [List.map_cons, List.nodup_cons] at nd
    rw [List.map_cons, List.find?_cons]
    rcases List.mem_cons.mp m with q | q
    · subst q; simp
    · have : x.n ≠ c.n := fun e => nd.1 (e ▸ List.mem_map.mpr ⟨c, q, rfl⟩)
      simp only [Sum.inr.injEq, this, decide_false]
      exact ih nd.2 q nd.2 q
theorem kvs_some {s : Bk} {z : Str} : (valV s.kvs (Sum.inr z)).isSome = decide (z ∈ s.accs.map Acc.n) := by
  obtain ⟨accs, posts⟩ := s
  unfold Bk.kvs valV
  show (((accs.map fun c => ((Sum.inr c.n : Key), V.ref c.a)).find? _).map _).isSome = decide (z ∈ accs.map Acc.n)
  induction accs with
  | nil => rfl
  | cons x l ih =>
    rw [List.map_cons, List.find?_cons, List.map_cons]
    by_cases q : x.n = z
    · subst q; simp
    · have q' : ¬ z = x.n := fun e => q e.symm
      simp only [Sum.inr.injEq, q, decide_false, List.mem_cons, q', false_or]
      exact ih
end
end
end Cs
set_option maxHeartbeats 4000000
namespace Cs
open PySem PySem.Spec PyProof.Rows L2
local macro_rules | `(tactic| walk_at "rd") => `(tactic| (first
  | (refine ⟨_, rfl, ?_⟩)
  | (refine ⟨_, _, rfl, rfl, ?_⟩)
  | (refine .inl ⟨_, rfl, ?_⟩)
  | (refine .inr ⟨_, rfl, ?_⟩)
  | (refine ⟨_, _, _, _, rfl, rfl, SqL.of upd_same, rfl, ?_⟩)
  | (refine ⟨_, _, _, _, rfl, rfl, upd_same, rfl, ?_⟩)
  | (refine ⟨_, ?xs, _, ?v, rfl, rfl, ?h, ?x, ?_⟩; (case h => first | exact SqL.of (by assumption) | exact SqT.of (by assumption) | assumption); (case x => first | rfl | exact atI_nat (j := 0) rfl | exact atI_nat (j := 1) rfl))))
local macro_rules | `(tactic| walk_at "isi") => `(tactic| (first
  | (refine ⟨_, _, _, _, _, rfl, .ty _, .base (.int _), kit_ty kit_it, ?_⟩)
  | (refine ⟨_, _, _, _, _, rfl, .ty _, .base (.int _), kit_ty kit_ib, ?_⟩)
  | (refine ⟨_, _, _, _, _, rfl, .ty _, .base (.int _), kit_ty kit_ii, ?_⟩)
  | (refine ⟨_, _, _, _, _, rfl, .ty _, .base (.bl _), kit_ty kit_bt, ?_⟩)
  | (refine ⟨_, _, _, _, _, rfl, .ty _, .base (.bl _), kit_ty kit_bb, ?_⟩)
  | (refine ⟨_, _, _, _, _, rfl, .ty _, .base (.bl _), kit_ty kit_bi, ?_⟩)))
local macro_rules | `(tactic| walk_at "ev") => `(tactic| (first
  | exact ev_var rfl
  | exact ev_int
  | exact ev_str
  | exact ev_bl
  | exact ev_non
  | (refine ev_add ?_ ?_ <;> walk_at "ev")
  | (refine ev_sub ?_ ?_ <;> walk_at "ev")
  | (refine ev_mul ?_ ?_ ?_ <;> (try walk_at "ev"))
  | (refine ev_neg ?_ <;> walk_at "ev")
  | (refine ev_num ?_ <;> walk_at "ev")
  | (refine ev_den ?_ <;> walk_at "ev")
  | (refine ev_cmp ?_ ?_ <;> walk_at "ev")
  | (refine ev_eqI ?_ ?_ <;> walk_at "ev")
  | (refine ev_eqS ?_ ?_ <;> walk_at "ev")
  | (refine ev_neI ?_ ?_ <;> walk_at "ev")
  | (refine ev_neS ?_ ?_ <;> walk_at "ev")
  | (refine ev_inS ?_ ?_ <;> walk_at "ev")
  | (refine ev_niS ?_ ?_ <;> walk_at "ev")
  | (refine ev_len ?_ <;> walk_at "ev")
  | (refine ev_list ?_ <;> walk_at "ev")
  | (refine ev_listRev ?_ <;> walk_at "ev")
  | (refine ev_int1 ?_ <;> walk_at "ev")))
local macro_rules | `(tactic| walk_at "ea") => `(tactic| (first
  | exact ea_nil
  | (refine ea_cons ?_ ?_ <;> (first | walk_at "ev" | walk_at "ea" | skip))))
local macro_rules | `(tactic| walk_at "sb") => `(tactic| (first | exact True.intro | (refine And.intro rfl ?_; walk_at "sb")))
section
variable {P : Program} {w : World} {K : PySem.W.Frag} {mg : Str → Option Value} {base : Heap}
/-- books where they stand -/
abbrev BkX := Addr × Addr × Addr × Bk
abbrev bkR (K : PySem.W.Frag) (CB : Addr) (x : BkX) : RS := rBk K CB x.1 x.2.1 x.2.2.1 x.2.2.2
abbrev BkX.names (x : BkX) : List Str := x.2.2.2.accs.map Acc.n
abbrev bkA (x : BkX × Str) : List SF := [tRf.is x.1.1, tSt.is x.2]
abbrev spChk (K : PySem.W.Frag) (CB : Addr) : Sp := spN (fun x : BkX × Str => [bkR K CB x.1]) bkA tNn (fun x => x.2 ∈ x.1.names) (fun _ _ => True)
abbrev spChkE (K : PySem.W.Frag) (CB CE : Addr) : Sp := spE (fun x : BkX × Str => [bkR K CB x.1]) bkA (fun x => x.2 ∉ x.1.names) CE (fun x => [("name", tSt.is x.2)])
theorem go_fallN {W : Wd} {C : List RS} {S : List Addr} {P : Unit → Prop} {Q : VK} {σ : L2.St} {H : Hp} (o : Ok W σ H) (out : Rt C S W.H0 tNn P Q) (hp : P ()) (hM : W.M = fps C) (hC : ∀ c ∈ C, c ∈ W.L) (hS : ∀ a, a ∈ S → a ∈ W.S) : Q .non H :=
  out .non () H hp (by rw [← hM]; exact o.bt) (fun a m => o.al a (o.ms a (by rw [hM]; exact m))) (o.rsAt hC hS) rfl
abbrev sBChk : Stmt := inClass (topS 14) 9
theorem scBChk : FnScope ["self", "name"] ["self", "name"] (defScope sBChk) := ⟨rfl, rfl, rfl, by decide +kernel, rfl, by decide +kernel, by decide +kernel⟩
theorem ok_chk {f CB : Addr} {fd : FuncData} {k : Nat} (F : Fun K "_check" "Books._check" sBChk f fd) (BC : BkC K CB) : FnOk P w K mg base CX0 (k + 1) f fd ["self", "name"] (spChk K CB) := by
  refine ok_N F scBChk (fun _ => rfl) fun cdv A outer s H0 S x Q E hr hp out => ?_
  have hu := hu_of hr
  refine ⟨_, (pss_one (ps_if (pt_cmp (pc_dnotin hu (pv 1) (pe_fld (pv 0) rfl))) (pss_one ps_never) pss_nil)), ?_⟩
  obtain ⟨⟨b, pd, sd, s⟩, z⟩ := x
  have hp : z ∈ s.accs.map Acc.n := hp
  refine go_if (et_niR (r := rBk K CB b pd sd s) (List.mem_cons_self ..) bk_dict (ev_var rfl) (ev_fldR (List.mem_cons_self ..) bk_statements (ev_var rfl) BC.cl BC.n1)) (fun h => ?_) (fun _ => go_next fun σ H o => ?_)
  · rw [kvs_some, decide_eq_true hp] at h
    cases h
  · exact go_fallN o out trivial rfl (fun c z => z) (fun a z => z)
def lastB (rows : List (V × Row)) : Rat := match rows.getLast? with
  | some p => p.2.2.2.2
  | none => 0
theorem lastB_at {rows : List (V × Row)} (h : rows ≠ []) : ∃ r, atI (rows.map (·.2)) (-1) = some r ∧ r.2.2.2 = lastB rows := by
  obtain ⟨l, p, rfl⟩ : ∃ l p, rows = l ++ [p] := ⟨rows.dropLast, rows.getLast h, (List.dropLast_concat_getLast h).symm⟩
  refine ⟨p.2, ?_, by unfold lastB; rw [List.getLast?_append]; rfl⟩
  unfold atI ixN
  simp only [List.map_append, List.map_cons, List.map_nil, List.length_append, List.length_map, List.length_cons, List.length_nil]
  rw [if_neg (by decide), if_pos (by omega)]
  show (l.map (·.2) ++ [p.2])[(-1 + ((l.length + (0 + 1) : Nat) : Int)).toNat]? = _
  rw [show (-1 + ((l.length + (0 + 1) : Nat) : Int)).toNat = (l.map (·.2)).length from by rw [List.length_map]; omega, List.getElem?_append_right (Nat.le_refl _)]
  simp
structure HasAcc (x : BkX × Str) (c : Acc) : Prop where
  nd : x.1.names.Nodup
  m : c ∈ x.1.2.2.2.accs
  e : c.n = x.2
theorem HasAcc.known {x : BkX × Str} {c : Acc} (h : HasAcc x c) : x.2 ∈ x.1.names := h.e ▸ List.mem_map.mpr ⟨c, h.m, rfl⟩
abbrev spBal (K : PySem.W.Frag) (CB : Addr) : Sp := spN (fun x : (BkX × Str) × Acc => [bkR K CB x.1.1]) (fun x => bkA x.1) (tFr K) (fun x => HasAcc x.1 x.2) (fun x y => y = lastB x.2.rows)
abbrev sBBal : Stmt := inClass (topS 14) 4
theorem scBBal : FnScope ["self", "name"] ["self", "name"] (defScope sBBal) := ⟨rfl, rfl, rfl, by decide +kernel, rfl, by decide +kernel, by decide +kernel⟩
theorem ok_balance {f CB zZ : Addr} {fd : FuncData} {k : Nat} (F : Fun K "balance" "Books.balance" sBBal f fd) (BC : BkC K CB) (c_check : CalM P w K mg base k CB "_check" ["self", "name"] (spChk K CB)) (m_ZERO : mg "ZERO" = some (.ref zZ)) (hZ : ∀ H, SqT K H zZ [.int 0, .int 1]) : FnOk P w K mg base CX0 (k + 1) f fd ["self", "name"] (spBal K CB) := by
  refine ok_N F scBBal (fun _ => rfl) fun cdv A outer s H0 S x Q E hr hp out => ?_
  have hu := hu_of hr
  refine ⟨_, (pss_cons (ps_expr (pe_calM (pv 0) c_check BC.cl hr (pa_cons (pv 1) pa_nil)))
      (pss_one (ps_ret (pe_ifExp (pt_truth (pe_dget hu (pe_fld (pv 0) rfl) (pv 1) (fun _ _ => rfl)) (fun _ => rfl)) (pe_ix ix_tup (pe_ix ix_list (pe_dget hu (pe_fld (pv 0) rfl) (pv 1) (fun _ _ => rfl)) (pe_un un_neg pe_int) (fun _ _ => rfl)) pe_int (fun _ _ => rfl)) (pe_glob (v := .ref zZ) (by rfl) m_ZERO rfl))))), ?_⟩
  obtain ⟨⟨⟨b, pd, sd, s⟩, z⟩, c⟩ := x
  have hk := hp.known
  obtain ⟨nd, mc, e⟩ := hp
  have nd : (s.accs.map Acc.n).Nodup := nd
  have mc : c ∈ s.accs := mc
  obtain rfl : c.n = z := e
  refine go_dropx (evx_meth (r := rBk K CB b pd sd s) (z := ((b, pd, sd, s), c.n)) (bk_ob "_check" rfl) (List.mem_cons_self ..) (ev_var rfl) (ea_cons (ev_var rfl) ea_nil) rfl hk) fun _ _ => ?_
  have rowsR : ∀ W : Wd, rBk K CB b pd sd s ∈ W.L → W.G[0]? = some (some (tRf.is b)) → W.G[1]? = some (some (tSt.is c.n)) → Ev W (tDGet (tFld K (tVar 0) "statements") (tVar 1)) tRf c.a := fun W hr h0 h1 => ev_dgetR hr bk_dict (ev_fldR hr bk_statements (ev_var h0) BC.cl BC.n1) (ev_var h1) (kvs_get nd mc)
  refine go_end (y := lastB c.rows) (ev_if (et_truR (r := rBk K CB b pd sd s) (List.mem_cons_self ..) (bk_rows mc).l (rowsR _ (List.mem_cons_self ..) rfl rfl)) (fun h => ?_) (fun h => ?_)) out (hC := fun c z => z)
  · have ne : c.rows ≠ [] := by
      intro z
      rw [z] at h
      cases h
    obtain ⟨r, h1, h2⟩ := lastB_at ne
    rw [← h2]
    exact ev_item (n := 3) (ev_ixR (r := rBk K CB b pd sd s) (List.mem_cons_self ..) (bk_rows mc).l (rowsR _ (List.mem_cons_self ..) rfl rfl) (ev_neg ev_int) h1) rfl
  · have ne : c.rows = [] := by simpa using h
    rw [show lastB c.rows = 0 from by rw [ne]; rfl]
    exact ev_k fun H => ⟨zZ, rfl, hZ H⟩
abbrev bk1 (x : BkX) : List SF := [tRf.is x.1]
abbrev spStm (K : PySem.W.Frag) (CB : Addr) : Sp := spN (fun x : (BkX × Str) × Acc => [bkR K CB x.1.1]) (fun x => bkA x.1) (tLs K (tRow K)) (fun x => HasAcc x.1 x.2) (fun x y => y = x.2.rows.map (·.2))
abbrev spAcc (K : PySem.W.Frag) (CB : Addr) : Sp := spN (fun x : BkX => [bkR K CB x]) bk1 (tLs K tSt) (fun _ => True) (fun x y => y = x.names)
def lastDay (ps : List (V × Post)) : Int := match ps.getLast? with
  | some p => p.2.1
  | none => -1
abbrev spLat (K : PySem.W.Frag) (CB : Addr) : Sp := spN (fun x : BkX => [bkR K CB x]) bk1 tInt (fun _ => True) (fun x y => y = lastDay x.2.2.2.posts)
abbrev spPos (K : PySem.W.Frag) (CB : Addr) : Sp := spN (fun x : BkX => [bkR K CB x]) bk1 (tLs K (tPost K)) (fun x => x.2.2.2.posts.length ≤ 1000) (fun x y => y = x.2.2.2.posts.map (·.2))
theorem rowsEv {CB b pd sd : Addr} {s : Bk} {c : Acc} {n i : Nat} (BC : BkC K CB) (nd : (s.accs.map Acc.n).Nodup) (mc : c ∈ s.accs) (W : Wd) (hr : rBk K CB b pd sd s ∈ W.L) (h0 : W.G[i]? = some (some (tRf.is b))) (h1 : W.G[n]? = some (some (tSt.is c.n))) : Ev W (tDGet (tFld K (tVar i) "statements") (tVar n)) tRf c.a :=
  ev_dgetR hr bk_dict (ev_fldR hr bk_statements (ev_var h0) BC.cl BC.n1) (ev_var h1) (kvs_get nd mc)
abbrev sBStm : Stmt := inClass (topS 14) 6
theorem scBStm : FnScope ["self", "name"] ["self", "name"] (defScope sBStm) := ⟨rfl, rfl, rfl, by decide +kernel, rfl, by decide +kernel, by decide +kernel⟩
theorem ok_statement {f CB : Addr} {fd : FuncData} {k : Nat} (F : Fun K "statement" "Books.statement" sBStm f fd) (BC : BkC K CB) (c_check : CalM P w K mg base k CB "_check" ["self", "name"] (spChk K CB)) (z_list : mg "list" = none) : FnOk P w K mg base CX0 (k + 1) f fd ["self", "name"] (spStm K CB) := by
  refine ok_N F scBStm (fun _ => rfl) fun cdv A outer s H0 S x Q E hr hp out => ?_
  have hu := hu_of hr
  refine ⟨_, (pss_cons (ps_expr (pe_calM (pv 0) c_check BC.cl hr (pa_cons (pv 1) pa_nil)))
      (pss_one (ps_ret (pe_callTy call_list_of (by rfl) z_list (by decide +kernel) (pa_cons (pe_dget hu (pe_fld (pv 0) rfl) (pv 1) (fun _ _ => rfl)) pa_nil))))), ?_⟩
  obtain ⟨⟨⟨b, pd, sd, s⟩, z⟩, c⟩ := x
  have hk := hp.known
  obtain ⟨nd, mc, e⟩ := hp
  have nd : (s.accs.map Acc.n).Nodup := nd
  have mc : c ∈ s.accs := mc
  obtain rfl : c.n = z := e
  refine go_dropx (evx_meth (r := rBk K CB b pd sd s) (z := ((b, pd, sd, s), c.n)) (bk_ob "_check" rfl) (List.mem_cons_self ..) (ev_var rfl) (ea_cons (ev_var rfl) ea_nil) rfl hk) fun _ _ => ?_
  exact go_end (y := c.rows.map (·.2)) (ev_listR (r := rBk K CB b pd sd s) (List.mem_cons_self ..) (bk_rows mc).l (rowsEv BC nd mc _ (List.mem_cons_self ..) rfl rfl)) out (hC := fun c z => z)
abbrev sBAcc : Stmt := inClass (topS 14) 7
theorem scBAcc : FnScope ["self"] ["self"] (defScope sBAcc) := ⟨rfl, rfl, rfl, by decide +kernel, rfl, by decide +kernel, by decide +kernel⟩
theorem ok_accounts {f CB : Addr} {fd : FuncData} {k : Nat} (F : Fun K "accounts" "Books.accounts" sBAcc f fd) (BC : BkC K CB) (z_list : mg "list" = none) : FnOk P w K mg base CX0 (k + 1) f fd ["self"] (spAcc K CB) := by
  refine ok_N F scBAcc (fun _ => rfl) fun cdv A outer s H0 S x Q E hr hp out => ⟨_, (pss_one (ps_ret (pe_callTy (call_listD rfl) (by rfl) z_list (by decide +kernel) (pa_cons (pe_fld (pv 0) rfl) pa_nil)))), ?_⟩
  obtain ⟨b, pd, sd, s⟩ := x
  refine go_end (y := s.accs.map Acc.n) (ev_listD (r := rBk K CB b pd sd s) (List.mem_cons_self ..) bk_dict (ev_fldR (List.mem_cons_self ..) bk_statements (ev_var rfl) BC.cl BC.n1) ?_) out (hC := fun c z => z)
  show (s.accs.map fun c => ((Sum.inr c.n : Key), V.ref c.a)).map (·.1) = (s.accs.map Acc.n).map Sum.inr
  rw [List.map_map, List.map_map]
  rfl
abbrev sBLat : Stmt := inClass (topS 14) 1
theorem scBLat : FnScope ["self"] ["self"] (defScope sBLat) := ⟨rfl, rfl, rfl, by decide +kernel, rfl, by decide +kernel, by decide +kernel⟩
theorem ok_latest {f CB : Addr} {fd : FuncData} {k : Nat} (F : Fun K "latest_day" "Books.latest_day" sBLat f fd) (BC : BkC K CB) : FnOk P w K mg base CX0 (k + 1) f fd ["self"] (spLat K CB) := by
  refine ok_N F scBLat (fun _ => rfl) fun cdv A outer s H0 S x Q E hr hp out => ⟨_, (pss_one (ps_ret (pe_ifExp (pt_truth (pe_fld (pv 0) rfl) (fun _ => rfl)) (pe_ix ix_tup (pe_ix ix_list (pe_fld (pv 0) rfl) (pe_un un_neg pe_int) (fun _ _ => rfl)) pe_int (fun _ _ => rfl)) (pe_un un_neg pe_int)))), ?_⟩
  obtain ⟨b, pd, sd, s⟩ := x
  have pe : ∀ W : Wd, rBk K CB b pd sd s ∈ W.L → W.G[0]? = some (some (tRf.is b)) → Ev W (tFld K (tVar 0) "posted") tRf pd := fun W hr h0 => ev_fldR hr bk_posted (ev_var h0) BC.cl BC.n0
  refine go_end (y := lastDay s.posts) (ev_if (et_truR (r := rBk K CB b pd sd s) (List.mem_cons_self ..) bk_posts.l (pe _ (List.mem_cons_self ..) rfl)) (fun h => ?_) (fun h => ?_)) out (hC := fun c z => z)
  · have ne : s.posts ≠ [] := by
      intro z
      rw [z] at h
      cases h
    obtain ⟨l, p, e⟩ : ∃ l p, s.posts = l ++ [p] := ⟨s.posts.dropLast, s.posts.getLast ne, (List.dropLast_concat_getLast ne).symm⟩
    have h1 : atI (s.posts.map (·.2)) (-1) = some p.2 := by
      rw [e]
      unfold atI ixN
      simp only [List.map_append, List.map_cons, List.map_nil, List.length_append, List.length_map, List.length_cons, List.length_nil]
      rw [if_neg (by decide), if_pos (by omega)]
      show (l.map (·.2) ++ [p.2])[(-1 + ((l.length + (0 + 1) : Nat) : Int)).toNat]? = _
      rw [show (-1 + ((l.length + (0 + 1) : Nat) : Int)).toNat = (l.map (·.2)).length from by rw [List.length_map]; omega, List.getElem?_append_right (Nat.le_refl _)]
      simp
    refine ev_is (ev_fst (ev_ixR (t := tPost K) (x := (p.2.1, p.2.2)) (r := rBk K CB b pd sd s) (List.mem_cons_self ..) bk_posts.l (pe _ (List.mem_cons_self ..) rfl) (ev_neg ev_int) h1)) ?_
    unfold lastDay
    rw [e, List.getLast?_append]
    rfl
  · have ne : s.posts = [] := by simpa using h
    rw [show lastDay s.posts = -1 from by rw [ne]; rfl]
    exact ev_neg ev_int
end
end Cs
set_option maxHeartbeats 4000000
namespace Cs
open PySem PySem.Spec PyProof.Rows L2
local macro_rules | `(tactic| walk_at "rd") => `(tactic| (first
  | (refine ⟨_, rfl, ?_⟩)
  | (refine ⟨_, _, rfl, rfl, ?_⟩)
  | (refine .inl ⟨_, rfl, ?_⟩)
  | (refine .inr ⟨_, rfl, ?_⟩)
  | (refine ⟨_, _, _, _, rfl, rfl, SqL.of upd_same, rfl, ?_⟩)
  | (refine ⟨_, _, _, _, rfl, rfl, upd_same, rfl, ?_⟩)
  | (refine ⟨_, ?xs, _, ?v, rfl, rfl, ?h, ?x, ?_⟩; (case h => first | exact SqL.of (by assumption) | exact SqT.of (by assumption) | assumption); (case x => first | rfl | exact atI_nat (j := 0) rfl | exact atI_nat (j := 1) rfl))))
local macro_rules | `(tactic| walk_at "isi") => `(tactic| (first
  | (refine ⟨_, _, _, _, _, rfl, .ty _, .base (.int _), kit_ty kit_it, ?_⟩)
  | (refine ⟨_, _, _, _, _, rfl, .ty _, .base (.int _), kit_ty kit_ib, ?_⟩)
  | (refine ⟨_, _, _, _, _, rfl, .ty _, .base (.int _), kit_ty kit_ii, ?_⟩)
  | (refine ⟨_, _, _, _, _, rfl, .ty _, .base (.bl _), kit_ty kit_bt, ?_⟩)
  | (refine ⟨_, _, _, _, _, rfl, .ty _, .base (.bl _), kit_ty kit_bb, ?_⟩)
  | (refine ⟨_, _, _, _, _, rfl, .ty _, .base (.bl _), kit_ty kit_bi, ?_⟩)))
local macro_rules | `(tactic| walk_at "ev") => `(tactic| (first
  | exact ev_var rfl
  | exact ev_int
  | exact ev_str
  | exact ev_bl
  | exact ev_non
  | (refine ev_add ?_ ?_ <;> walk_at "ev")
  | (refine ev_sub ?_ ?_ <;> walk_at "ev")
  | (refine ev_mul ?_ ?_ ?_ <;> (try walk_at "ev"))
  | (refine ev_neg ?_ <;> walk_at "ev")
  | (refine ev_num ?_ <;> walk_at "ev")
  | (refine ev_den ?_ <;> walk_at "ev")
  | (refine ev_cmp ?_ ?_ <;> walk_at "ev")
  | (refine ev_eqI ?_ ?_ <;> walk_at "ev")
  | (refine ev_eqS ?_ ?_ <;> walk_at "ev")
  | (refine ev_neI ?_ ?_ <;> walk_at "ev")
  | (refine ev_neS ?_ ?_ <;> walk_at "ev")
  | (refine ev_inS ?_ ?_ <;> walk_at "ev")
  | (refine ev_niS ?_ ?_ <;> walk_at "ev")
  | (refine ev_len ?_ <;> walk_at "ev")
  | (refine ev_list ?_ <;> walk_at "ev")
  | (refine ev_listRev ?_ <;> walk_at "ev")
  | (refine ev_int1 ?_ <;> walk_at "ev")))
local macro_rules | `(tactic| walk_at "ea") => `(tactic| (first
  | exact ea_nil
  | (refine ea_cons ?_ ?_ <;> (first | walk_at "ev" | walk_at "ea" | skip))))
local macro_rules | `(tactic| walk_at "sb") => `(tactic| (first | exact True.intro | (refine And.intro rfl ?_; walk_at "sb")))
section
variable {P : Program} {w : World} {K : PySem.W.Frag} {mg : Str → Option Value} {base : Heap}
def onB (rows : List (V × Row)) (day : Int) : Rat := match (((rows.map (·.2)).filter fun r => decide (r.1 ≤ day)).map fun r => r.2.2.2).getLast? with
  | some x => x
  | none => 0
theorem last_at {α : Type} {l : List α} {x : α} (h : l.getLast? = some x) : atI l (-1) = some x := by
  obtain ⟨m, rfl⟩ : ∃ m, l = m ++ [x] := List.getLast?_eq_some_iff.mp h
  unfold atI ixN
  simp only [List.length_append, List.length_cons, List.length_nil]
  rw [if_neg (by decide), if_pos (by omega)]
  show (m ++ [x])[(-1 + ((m.length + (0 + 1) : Nat) : Int)).toNat]? = _
  rw [show (-1 + ((m.length + (0 + 1) : Nat) : Int)).toNat = m.length from by omega, List.getElem?_append_right (Nat.le_refl _)]
  simp
abbrev spOn (K : PySem.W.Frag) (CB : Addr) : Sp := spN (fun x : (BkX × Str) × Acc × Int => [bkR K CB x.1.1]) (fun x => [tRf.is x.1.1.1, tSt.is x.1.2, tInt.is x.2.2]) (tFr K) (fun x => HasAcc x.1 x.2.1 ∧ x.2.1.rows.length ≤ 1000) (fun x y => y = onB x.2.1.rows x.2.2)
abbrev sBBalOn : Stmt := inClass (topS 14) 5
theorem scBBalOn : FnScope ["self", "name", "day", "until", "row"] ["self", "name", "day"] (defScope sBBalOn) := ⟨rfl, rfl, rfl, by decide +kernel, rfl, by decide +kernel, by decide +kernel⟩
theorem ok_balance_on {f CB zZ : Addr} {fd : FuncData} {k : Nat} (F : Fun K "balance_on" "Books.balance_on" sBBalOn f fd) (BC : BkC K CB) (c_check : CalM P w K mg base k CB "_check" ["self", "name"] (spChk K CB)) (m_ZERO : mg "ZERO" = some (.ref zZ)) (hZ : ∀ H, SqT K H zZ [.int 0, .int 1]) : FnOk P w K mg base CX0 (k + 1) f fd ["self", "name", "day"] (spOn K CB) := by
  refine ok_N F scBBalOn (fun _ => rfl) fun cdv A outer s H0 S x Q E hr hp out => ?_
  have hu := hu_of hr
  refine ⟨_, (pss_cons (ps_expr (pe_calM (pv 0) c_check BC.cl hr (pa_cons (pv 1) pa_nil)))
      (pss_cons (ps_setLc (i := 3) (own := [("row", 4)]) (g := gName 4)  rfl scBBalOn.nd rfl rfl (sw_true rfl rfl rfl (by decide +kernel)) (pi_list (pe_dget hu (pe_fld (pv 0) rfl) (pv 1) (fun _ _ => rfl))) (blkOk_by (own := [("row", 4)]) (N := ["self", "name", "day", "until", "row"]) (sc := defScope sBBalOn) (by decide +kernel)) (fun _ _ _ _ _ => (pg_name (i := 4) scBBalOn.nd rfl (Or.inl rfl))) (fun _ _ _ _ _ => (pts_one (pt_cmpR op_le (pe_ix (ix_tupK (K := K) rfl) (pv 4) pe_int (fun _ _ => rfl)) (pv 2) (nomark _)))) (fun _ _ _ _ _ => (pe_ix (ix_tupK (K := K) rfl) (pv 4) pe_int (fun _ _ => rfl))))
      (pss_one (ps_ret (pe_ifExp (pt_truth (pv 3) (fun _ => rfl)) (pe_ix ix_list (pv 3) (pe_un un_neg pe_int) (fun _ _ => rfl)) (pe_glob (v := .ref zZ) (by rfl) m_ZERO rfl)))))), ?_⟩
  obtain ⟨⟨⟨b, pd, sd, s⟩, z⟩, c, day⟩ := x
  obtain ⟨hp, hl⟩ := hp
  have hk := hp.known
  obtain ⟨nd, mc, e⟩ := hp
  have nd : (s.accs.map Acc.n).Nodup := nd
  have mc : c ∈ s.accs := mc
  obtain rfl : c.n = z := e
  have hl : c.rows.length ≤ 1000 := hl
  refine go_dropx (evx_meth (r := rBk K CB b pd sd s) (z := ((b, pd, sd, s), c.n)) (bk_ob "_check" rfl) (List.mem_cons_self ..) (ev_var rfl) (ea_cons (ev_var rfl) ea_nil) rfl hk) fun _ _ => ?_
  refine go_set (x := ((c.rows.map (·.2)).filter fun r => decide (r.1 ≤ day)).map fun r => r.2.2.2) (ev_lcfR (K := K) (r := rBk K CB b pd sd s) (List.mem_cons_self ..) (ivR_list (List.mem_cons_self ..) (bk_rows mc) (rowsEv BC nd mc _ (List.mem_cons_self ..) rfl rfl)) tgt_name (by simp) (by rw [List.length_map, sizeLine_eq]; omega)
    (fun _ _ _ x _ xm => et_of (ev_cmp (ev_item (n := 0) (ev_var rfl) rfl) (ev_var rfl))) (fun _ _ _ x _ xm px => ev_item (n := 3) (ev_var rfl) rfl)) ?_
  refine go_end (y := onB c.rows day) (ev_if (et_tru (ev_var rfl)) (fun h => ?_) (fun h => ?_)) out (hC := fun c z => z)
  · unfold onB
    cases q : (((c.rows.map (·.2)).filter fun r => decide (r.1 ≤ day)).map fun r => r.2.2.2).getLast? with
    | none => rw [List.getLast?_eq_none_iff.mp q] at h; cases h
    | some x => exact ev_ixL (ev_var rfl) (ev_neg ev_int) (last_at q)
  · have ne : (((c.rows.map (·.2)).filter fun r => decide (r.1 ≤ day)).map fun r => r.2.2.2) = [] := by simpa using h
    rw [show onB c.rows day = 0 from by unfold onB; rw [ne]; rfl]
    exact ev_k fun H => ⟨zZ, rfl, hZ H⟩
abbrev sBPos : Stmt := inClass (topS 14) 8
theorem scBPos : FnScope ["self", "day", "entries"] ["self"] (defScope sBPos) := ⟨rfl, rfl, rfl, by decide +kernel, rfl, by decide +kernel, by decide +kernel⟩
theorem ok_postings {f CB : Addr} {fd : FuncData} {k : Nat} (F : Fun K "postings" "Books.postings" sBPos f fd) (BC : BkC K CB) (z_list : mg "list" = none) : FnOk P w K mg base CX0 (k + 1) f fd ["self"] (spPos K CB) := by
  refine ok_N F scBPos (fun _ => rfl) fun cdv A outer s H0 S x Q E hr hp out => ⟨_, (pss_one (ps_ret (pe_lc (own := [("day", 1), ("entries", 2)]) (g := gTup K 2 (gCons (gName 1) (gCons (gName 2) gNil))) (tt := tYes) rfl scBPos.nd (pi_list (pe_fld (pv 0) rfl)) (blkOk_by (own := [("day", 1), ("entries", 2)]) (N := ["self", "day", "entries"]) (sc := defScope sBPos) (by decide +kernel)) (fun _ _ _ _ _ => (pg_tup rfl (pgs_cons (pg_name (i := 1) scBPos.nd rfl (Or.inl rfl)) (pgs_cons (pg_name (i := 2) scBPos.nd rfl (Or.inl rfl)) pgs_nil)))) (fun _ _ _ _ _ => pts_nil) (fun _ _ _ _ _ => (pe_tup (pa_cons (pv 1) (pa_cons (pe_callTy (call_list_ofK (K := K) rfl) (by rfl) z_list (by decide +kernel) (pa_cons (pv 2) pa_nil)) pa_nil))))))), ?_⟩
  obtain ⟨b, pd, sd, s⟩ := x
  have hl : s.posts.length ≤ 1000 := hp
  refine go_end (y := s.posts.map (·.2)) (ev_is (ev_lcmR (K := K) (u := tPost K) (f := fun x : Post => (x.1, x.2)) (r := rBk K CB b pd sd s) (List.mem_cons_self ..) (ivR_list (List.mem_cons_self ..) bk_posts (ev_fldR (List.mem_cons_self ..) bk_posted (ev_var rfl) BC.cl BC.n0)) tgt_pair (by simp) (by rw [List.length_map, sizeLine_eq]; omega) (fun _ _ _ x _ xm => ev_pr (ev_var rfl) (ev_list (ev_var rfl)))) ?_) out (hC := fun c z => z)
  exact List.map_id' _
end
end Cs
set_option maxHeartbeats 4000000
namespace Cs
open PySem PySem.Spec PyProof.Rows L2
local macro_rules | `(tactic| walk_at "rd") => `(tactic| (first
  | (refine ⟨_, rfl, ?_⟩)
  | (refine ⟨_, _, rfl, rfl, ?_⟩)
  | (refine .inl ⟨_, rfl, ?_⟩)
  | (refine .inr ⟨_, rfl, ?_⟩)
  | (refine ⟨_, _, _, _, rfl, rfl, SqL.of upd_same, rfl, ?_⟩)
  | (refine ⟨_, _, _, _, rfl, rfl, upd_same, rfl, ?_⟩)
  | (refine ⟨_, ?xs, _, ?v, rfl, rfl, ?h, ?x, ?_⟩; (case h => first | exact SqL.of (by assumption) | exact SqT.of (by assumption) | assumption); (case x => first | rfl | exact atI_nat (j := 0) rfl | exact atI_nat (j := 1) rfl))))
local macro_rules | `(tactic| walk_at "isi") => `(tactic| (first
  | (refine ⟨_, _, _, _, _, rfl, .ty _, .base (.int _), kit_ty kit_it, ?_⟩)
  | (refine ⟨_, _, _, _, _, rfl, .ty _, .base (.int _), kit_ty kit_ib, ?_⟩)
  | (refine ⟨_, _, _, _, _, rfl, .ty _, .base (.int _), kit_ty kit_ii, ?_⟩)
  | (refine ⟨_, _, _, _, _, rfl, .ty _, .base (.bl _), kit_ty kit_bt, ?_⟩)
  | (refine ⟨_, _, _, _, _, rfl, .ty _, .base (.bl _), kit_ty kit_bb, ?_⟩)
  | (refine ⟨_, _, _, _, _, rfl, .ty _, .base (.bl _), kit_ty kit_bi, ?_⟩)))
local macro_rules | `(tactic| walk_at "ev") => `(tactic| (first
  | exact ev_var rfl
  | exact ev_int
  | exact ev_str
  | exact ev_bl
  | exact ev_non
  | (refine ev_add ?_ ?_ <;> walk_at "ev")
  | (refine ev_sub ?_ ?_ <;> walk_at "ev")
  | (refine ev_mul ?_ ?_ ?_ <;> (try walk_at "ev"))
  | (refine ev_neg ?_ <;> walk_at "ev")
  | (refine ev_num ?_ <;> walk_at "ev")
  | (refine ev_den ?_ <;> walk_at "ev")
  | (refine ev_cmp ?_ ?_ <;> walk_at "ev")
  | (refine ev_eqI ?_ ?_ <;> walk_at "ev")
  | (refine ev_eqS ?_ ?_ <;> walk_at "ev")
  | (refine ev_neI ?_ ?_ <;> walk_at "ev")
  | (refine ev_neS ?_ ?_ <;> walk_at "ev")
  | (refine ev_inS ?_ ?_ <;> walk_at "ev")
  | (refine ev_niS ?_ ?_ <;> walk_at "ev")
  | (refine ev_len ?_ <;> walk_at "ev")
  | (refine ev_list ?_ <;> walk_at "ev")
  | (refine ev_listRev ?_ <;> walk_at "ev")
  | (refine ev_int1 ?_ <;> walk_at "ev")))
local macro_rules | `(tactic| walk_at "ea") => `(tactic| (first
  | exact ea_nil
  | (refine ea_cons ?_ ?_ <;> (first | walk_at "ev" | walk_at "ea" | skip))))
local macro_rules | `(tactic| walk_at "sb") => `(tactic| (first | exact True.intro | (refine And.intro rfl ?_; walk_at "sb")))
section
variable {P : Program} {w : World} {K : PySem.W.Frag} {mg : Str → Option Value} {base : Heap}
/-- a new account -/
def Bk.open_ (s : Bk) (z : Str) (a : Addr) : Bk := ⟨s.accs ++ [⟨z, a, []⟩], s.posts⟩
theorem put_new {s : Bk} {z : Str} {a : Addr} (h : z ∉ s.accs.map Acc.n) : putK s.kvs (Sum.inr z) (V.ref a) = (s.open_ z a).kvs := by
  have e : (s.kvs.any fun kv => decide (kv.1 = Sum.inr z)) = false := by
    rw [List.any_eq_false]
    intro kv m
    obtain ⟨c, mc, rfl⟩ := List.mem_map.mp m
    simp only [decide_eq_true_eq, Sum.inr.injEq]
    exact fun q => h (q ▸ List.mem_map.mpr ⟨c, mc, rfl⟩)
  unfold putK
  rw [e]
  unfold Bk.kvs Bk.open_
  simp
abbrev spOpn (K : PySem.W.Frag) (CB : Addr) : Sp := spS (fun x : BkX × Str => [bkR K CB x.1]) bkA tNn (fun x => x.2 ≠ "" ∧ x.2 ∉ x.1.names ∧ x.1.names.length ≤ 1000) (fun x _ C' => ∃ a, C' = [rBk K CB x.1.1 x.1.2.1 x.1.2.2.1 (x.1.2.2.2.open_ x.2 a)])
abbrev sBOpn : Stmt := inClass (topS 14) 2
theorem scBOpn : FnScope ["self", "name"] ["self", "name"] (defScope sBOpn) := ⟨rfl, rfl, rfl, by decide +kernel, rfl, by decide +kernel, by decide +kernel⟩
theorem ok_open {f CB : Addr} {fd : FuncData} {k : Nat} (F : Fun K "open_account" "Books.open_account" sBOpn f fd) (BC : BkC K CB) : FnOk P w K mg base CX0 (k + 1) f fd ["self", "name"] (spOpn K CB) := by
  refine ok_S F scBOpn (fun _ => rfl) fun cdv A outer s H0 S x Q E hr hp al0 hMS out => ?_
  have hu := hu_of hr
  refine ⟨_, (pss_cons (ps_if (PW.pt (pw_or (pt_cmpR op_eq (pv 1) pe_str (nomark _)) (pw_or1 (pt_cmp (pc_din hu (pv 1) (pe_fld (pv 0) rfl)))))) (pss_one ps_never) pss_nil)
      (pss_one (ps_dput hu (pe_fld (pv 0) rfl) (pv 1) (pe_lst pa_nil) rfl))), ?_⟩
  obtain ⟨⟨b, pd, sd, s⟩, z⟩ := x
  obtain ⟨h1, h2, h3⟩ := hp
  have h1 : z ≠ "" := h1
  have h2 : z ∉ s.accs.map Acc.n := h2
  have h3 : (s.accs.map Acc.n).length ≤ 1000 := h3
  have se : ∀ W : Wd, rBk K CB b pd sd s ∈ W.L → W.G[0]? = some (some (tRf.is b)) → Ev W (tFld K (tVar 0) "statements") tRf sd := fun W hr h0 => ev_fldR hr bk_statements (ev_var h0) BC.cl BC.n1
  refine go_ifr (et_or (et_of (ev_eqS (ev_var rfl) ev_str)) (fun _ => et_inR (r := rBk K CB b pd sd s) (List.mem_cons_self ..) bk_dict (ev_var rfl) (se _ (List.mem_cons_self ..) rfl))) (fun h => ?_) (fun _ => ?_)
  · rw [kvs_some, decide_eq_false h2, decide_eq_false h1] at h
    cases h
  · intro σ H o
    refine ⟨Nat.zero_le _, fun p np => ?_⟩
    have o1 := (o.cell (ψ := cLs tV []) (o := .lst []) np ⟨[], rfl, trivial⟩).1
    refine se _ (List.mem_cons_of_mem _ (List.mem_cons_self ..)) rfl σ _ o1 _ fun v H2 g2 r2 => ?_
    obtain rfl : v = .ref sd := r2
    refine ev_var (t := tSt) (x := z) (n := 1) rfl σ H2 g2.ok _ fun v2 H3 g3 r3 => ?_
    obtain rfl : v2 = .str z := r3
    have o3 := g3.ok
    have rd := o3.at_ (rBk K CB b pd sd s) (List.mem_cons_of_mem _ (List.mem_cons_self ..))
    obtain ⟨ob, hob, ws, rfl, hws⟩ := o3.at_ (cell p (cLs tV [])) (List.mem_cons_self ..)
    obtain rfl : ws = [] := by
      cases ws with
      | nil => rfl
      | cons _ _ => exact hws.elim
    obtain ⟨⟨dx, r1⟩, ⟨r2, r3⟩, r4, r5⟩ := rd
    have hlen : s.kvs.length < sizeLine := by
      unfold Bk.kvs
      rw [List.length_map] at h3 ⊢
      rw [sizeLine_eq]; omega
    have hput : DPut H3 sd (V.str z) (V.ref p) (upd H3 sd (.dK (putK s.kvs (Sum.inr z) (V.ref p)))) := DPut.k (k := (Sum.inr z : Key)) r4 hlen
    refine ⟨sd, upd H3 sd (.dK (putK s.kvs (Sum.inr z) (V.ref p))), rfl, hput, ?_⟩
    rw [put_new h2]
    have nod := o3.nod
    have nod : (p :: b :: pd :: sd :: (s.accs.map Acc.a ++ [])).Nodup := nod
    rw [List.append_nil] at nod
    have n1 : b ≠ sd := fun e => by simp [e] at nod
    have n2 : pd ≠ sd := fun e => by simp [e] at nod
    have n3 : p ≠ sd := fun e => by simp [e] at nod
    have n4 : ∀ c ∈ s.accs, c.a ≠ sd := fun c m e => by
      have : sd ∈ s.accs.map Acc.a := e ▸ List.mem_map.mpr ⟨c, m, rfl⟩
      simp [this] at nod
    have sdS : sd ∈ p :: S := (o3.own sd (mem_fps (List.mem_cons_of_mem _ (List.mem_cons_self ..)) (by simp [rBk]))).1
    have eh : hid (p :: S) (upd H3 sd (.dK (s.open_ z p).kvs)) = hid (p :: S) H3 := hid_upd sdS
    have key := (o3.change1 (C := [cell p (cLs tV []), rBk K CB b pd sd s]) (C' := [rBk K CB b pd sd (s.open_ z p)]) (R := []) (N := []) (H' := upd H3 sd (.dK (s.open_ z p).kvs)) rfl (fun b' o' nb hb => ?_) (fun a m => nomatch m) ?_ (fun a m => .inl ?_) (fun a m => ?_) (fun r m => ?_)).1
    · refine ends_S (y := ()) (N := [p]) (C' := [rBk K CB b pd sd (s.open_ z p)]) key out rfl ⟨p, rfl⟩ rfl (List.Perm.refl _) rfl al0 (fun a m => ?_) hMS
      rw [List.mem_singleton.mp m]
      exact ⟨by simp [fps, rBk, Bk.open_], fun z => o.off np z⟩
    · rw [upd_ne (fun e => nb (by rw [e]; simp [fps, rBk, cell]))]
      exact hb
    · show (b :: pd :: sd :: (((s.accs ++ [(⟨z, p, []⟩ : Acc)]).map Acc.a) ++ [])).Nodup
      rw [List.append_nil, List.map_append]
      have pm : (p :: b :: pd :: sd :: s.accs.map Acc.a).Perm (b :: pd :: sd :: (s.accs.map Acc.a ++ [p])) := by
        have := (List.perm_append_singleton p (b :: pd :: sd :: s.accs.map Acc.a)).symm
        exact this
      exact pm.nodup_iff.mp nod
    · have m : a ∈ b :: pd :: sd :: (((s.accs ++ [(⟨z, p, []⟩ : Acc)]).map Acc.a) ++ []) := m
      show a ∈ p :: b :: pd :: sd :: (s.accs.map Acc.a ++ [])
      simp only [List.append_nil, List.map_append, List.map_cons, List.map_nil, List.mem_cons, List.mem_append, List.not_mem_nil, or_false] at m ⊢
      rcases m with m | m | m | m | m
      · exact .inr (.inl m)
      · exact .inr (.inr (.inl m))
      · exact .inr (.inr (.inr (.inl m)))
      · exact .inr (.inr (.inr (.inr m)))
      · exact .inl m
    · by_cases e : a = sd
      · rw [e, upd_same]; simp
      · rw [upd_ne e]
        obtain ⟨r, m1, m2⟩ := of_fps m
        exact o3.al a (o3.own a (mem_fps m1 m2)).1
    · rw [List.mem_singleton.mp m]
      show (rBk K CB b pd sd (s.open_ z p)).p (hid (p :: S) (upd H3 sd (.dK (s.open_ z p).kvs))) (upd H3 sd (.dK (s.open_ z p).kvs))
      rw [eh]
      refine ⟨⟨dx, by rw [upd_ne n1]; exact r1⟩, ⟨by rw [upd_ne n2]; exact r2, r3⟩, upd_same, fun c m => ?_⟩
      rcases List.mem_append.mp (show c ∈ s.accs ++ [(⟨z, p, []⟩ : Acc)] from m) with m | m
      · rw [upd_ne (n4 c m)]
        exact r5 c m
      · rw [List.mem_singleton.mp m]
        exact ⟨by rw [upd_ne n3]; exact hob, fun p m => nomatch m⟩
def spBkI (CB : Addr) : Sp := fun vs H Q _ => ∃ a dx, vs = [.ref a] ∧ H a = some (.ins CB dx []) ∧ ∀ pd sd H', H pd = none → H sd = none → pd ≠ sd → H' a = some (.ins CB dx (bkFs pd sd)) → H' pd = some (.lst []) → H' sd = some (.dK []) → (∀ b o, b ≠ a → H b = some o → H' b = some o) → Q .non H'
abbrev sBIni : Stmt := inClass (topS 14) 0
theorem scBIni : FnScope ["self"] ["self"] (defScope sBIni) := ⟨rfl, rfl, rfl, by decide +kernel, rfl, by decide +kernel, by decide +kernel⟩
theorem ok_bini {f CB : Addr} {fd : FuncData} {k : Nat} (F : Fun K "__init__" "Books.__init__" sBIni f fd) (BC : BkC K CB) : FnOk P w K mg base CX0 (k + 1) f fd ["self"] (spBkI CB) := by
  refine F.ok scBIni (fun vs H Q E h => ?_) (fun cdv A outer s H vs Q E hr h => ?_)
  · obtain ⟨a, dx, rfl, _⟩ := h
    rfl
  · obtain ⟨a, dx, rfl, ha, out⟩ := h
    refine ⟨_, (pss_cons (ps_fld (pv 0) (pe_lst pa_nil) rfl)
      (pss_one (ps_fld (pv 0) pe_dnewK rfl))), ?_⟩
    refine ⟨Nat.zero_le _, fun pd np => ⟨_, rfl, a, CB, dx, [], rfl, ?_, BC.cl, BC.n0, by decide, fun sd ns => ⟨_, rfl, a, CB, dx, [("posted", .ref pd)], rfl, ?_, BC.cl, BC.n1, by simp, ?_⟩⟩⟩
    · have : a ≠ pd := fun e => by rw [e, np] at ha; cases ha
      rw [upd_ne this]; exact ha
    · have : a ≠ sd := fun e => by rw [e, upd_same] at ns; cases ns
      rw [upd_ne this, upd_same]; rfl
    · have a1 : a ≠ pd := fun e => by rw [e, np] at ha; cases ha
      have a2 : a ≠ sd := fun e => by rw [e, upd_same] at ns; cases ns
      rw [upd_ne a2.symm] at ns
      have a3 : sd ≠ pd := fun e => by rw [e, upd_same] at ns; cases ns
      rw [upd_ne a3] at ns
      refine out pd sd _ np ns a3.symm (by rw [upd_same]; rfl) ?_ ?_ fun b o nb hb => ?_
      · rw [upd_ne a1.symm, upd_ne a3.symm, upd_ne a1.symm, upd_same]
      · rw [upd_ne a2.symm, upd_same]
      · have b1 : b ≠ pd := fun e => by rw [e, np] at hb; cases hb
        have b2 : b ≠ sd := fun e => by rw [e, ns] at hb; cases hb
        rw [upd_ne nb, upd_ne b2, upd_ne nb, upd_ne b1]
        exact hb
/-- books = Books() -/
theorem go_makeBk {W : Wd} {CB : Addr} {E : XK} {i : Nat} {us : TS} {D : Ends} (k : ∀ b pd sd, Go ⟨W.H0, W.M, [b, pd, sd] ++ W.S, rBk K CB b pd sd ⟨[], []⟩ :: W.L, W.F, W.G.set i (some (tRf.is b))⟩ us D) : Go W (tSeq (tAsg (tMake CB (spBkI CB) [] E tNil) (gName i)) us) D := fun σ H o => by
  intro b dx nb ndx ne
  refine ⟨b, dx, rfl, upd_same, fun pd sd H' np ns nps h1 h2 h3 keep => ⟨rfl, ?_⟩⟩
  have p1 : pd ≠ b := fun e => by rw [e, upd_same] at np; cases np
  have s1 : sd ≠ b := fun e => by rw [e, upd_same] at ns; cases ns
  rw [upd_ne p1] at np
  rw [upd_ne s1] at ns
  have p2 : pd ≠ dx := fun e => by rw [e, upd_same] at np; cases np
  have s2 : sd ≠ dx := fun e => by rw [e, upd_same] at ns; cases ns
  rw [upd_ne p2] at np
  rw [upd_ne s2] at ns
  have same : Same H H' := fun c ob hc => by
    have c1 : c ≠ b := fun e => by rw [e, nb] at hc; cases hc
    have c2 : c ≠ dx := fun e => by rw [e, ndx] at hc; cases hc
    exact keep c ob c1 (by rw [upd_ne c1, upd_ne c2]; exact hc)
  have fc : fps [rBk K CB b pd sd ⟨[], []⟩] = [b, pd, sd] := rfl
  have o2 := (o.change1 (C := []) (C' := [rBk K CB b pd sd ⟨[], []⟩]) (R := W.L) (N := [b, pd, sd]) (H' := H') rfl (Bt.of same) (fun a m => ?_) (by rw [fc]; simp [p1.symm, s1.symm, nps]) (fun a m => .inr (by rw [fc] at m; exact m)) (fun a m => nomatch m) (fun r m => ?_)).1
  · exact k b pd sd _ _ (Ok.put (i := i) (f := tRf.is b) o2 rfl)
  · simp only [List.mem_cons, List.not_mem_nil, or_false] at m
    rcases m with rfl | rfl | rfl
    · exact ⟨nb, by rw [h1]; simp⟩
    · exact ⟨np, by rw [h2]; simp⟩
    · exact ⟨ns, by rw [h3]; simp⟩
  · rw [List.mem_singleton.mp m]
    exact ⟨⟨dx, h1⟩, ⟨h2, fun p m => nomatch m⟩, h3, fun c m => nomatch m⟩
end
end Cs
set_option maxHeartbeats 4000000
namespace Cs
open PySem PySem.Spec PyProof.Rows L2
local macro_rules | `(tactic| walk_at "rd") => `(tactic| (first
  | (refine ⟨_, rfl, ?_⟩)
  | (refine ⟨_, _, rfl, rfl, ?_⟩)
  | (refine .inl ⟨_, rfl, ?_⟩)
  | (refine .inr ⟨_, rfl, ?_⟩)
  | (refine ⟨_, _, _, _, rfl, rfl, SqL.of upd_same, rfl, ?_⟩)
  | (refine ⟨_, _, _, _, rfl, rfl, upd_same, rfl, ?_⟩)
  | (refine ⟨_, ?xs, _, ?v, rfl, rfl, ?h, ?x, ?_⟩; (case h => first | exact SqL.of (by assumption) | exact SqT.of (by assumption) | assumption); (case x => first | rfl | exact atI_nat (j := 0) rfl | exact atI_nat (j := 1) rfl))))
local macro_rules | `(tactic| walk_at "isi") => `(tactic| (first
  | (refine ⟨_, _, _, _, _, rfl, .ty _, .base (.int _), kit_ty kit_it, ?_⟩)
  | (refine ⟨_, _, _, _, _, rfl, .ty _, .base (.int _), kit_ty kit_ib, ?_⟩)
  | (refine ⟨_, _, _, _, _, rfl, .ty _, .base (.int _), kit_ty kit_ii, ?_⟩)
  | (refine ⟨_, _, _, _, _, rfl, .ty _, .base (.bl _), kit_ty kit_bt, ?_⟩)
  | (refine ⟨_, _, _, _, _, rfl, .ty _, .base (.bl _), kit_ty kit_bb, ?_⟩)
  | (refine ⟨_, _, _, _, _, rfl, .ty _, .base (.bl _), kit_ty kit_bi, ?_⟩)))
local macro_rules | `(tactic| walk_at "ev") => `(tactic| (first
  | exact ev_var rfl
  | exact ev_int
  | exact ev_str
  | exact ev_bl
  | exact ev_non
  | (refine ev_add ?_ ?_ <;> walk_at "ev")
  | (refine ev_sub ?_ ?_ <;> walk_at "ev")
  | (refine ev_mul ?_ ?_ ?_ <;> (try walk_at "ev"))
  | (refine ev_neg ?_ <;> walk_at "ev")
  | (refine ev_num ?_ <;> walk_at "ev")
  | (refine ev_den ?_ <;> walk_at "ev")
  | (refine ev_cmp ?_ ?_ <;> walk_at "ev")
  | (refine ev_eqI ?_ ?_ <;> walk_at "ev")
  | (refine ev_eqS ?_ ?_ <;> walk_at "ev")
  | (refine ev_neI ?_ ?_ <;> walk_at "ev")
  | (refine ev_neS ?_ ?_ <;> walk_at "ev")
  | (refine ev_inS ?_ ?_ <;> walk_at "ev")
  | (refine ev_niS ?_ ?_ <;> walk_at "ev")
  | (refine ev_len ?_ <;> walk_at "ev")
  | (refine ev_list ?_ <;> walk_at "ev")
  | (refine ev_listRev ?_ <;> walk_at "ev")
  | (refine ev_int1 ?_ <;> walk_at "ev")))
local macro_rules | `(tactic| walk_at "ea") => `(tactic| (first
  | exact ea_nil
  | (refine ea_cons ?_ ?_ <;> (first | walk_at "ev" | walk_at "ea" | skip))))
local macro_rules | `(tactic| walk_at "sb") => `(tactic| (first | exact True.intro | (refine And.intro rfl ?_; walk_at "sb")))
section
variable {P : Program} {w : World} {K : PySem.W.Frag} {mg : Str → Option Value} {base : Heap}
/-! ### postings -/
def addS (ms : List (Str × Rat)) (e : Str × Rat) : List (Str × Rat) :=
  if (ms.any fun m => decide (m.1 = e.1)) = true then ms.map (fun m => if m.1 = e.1 then (m.1, ((ms.find? fun m => decide (m.1 = e.1)).map (·.2)).getD 0 + e.2) else m) else ms ++ [(e.1, ((ms.find? fun m => decide (m.1 = e.1)).map (·.2)).getD 0 + e.2)]
def sumsOf (es : List (Str × Rat)) : List (Str × Rat) := es.foldl addS []
def untag (m : Tag Rat) : Str × Rat := (m.1, m.2.2)
theorem find_untag : ∀ (ms : List (Tag Rat)) (z : Str), ((ms.map untag).find? fun m => decide (m.1 = z)) = (tagOf ms z).map untag
  | [], _ => rfl
  | m :: ms, z => by
    unfold tagOf
    rw [List.map_cons, List.find?_cons, List.find?_cons]
    by_cases q : m.1 = z
    · have : (untag m).1 = z := q
      simp [q, this]
    · have : ¬ (untag m).1 = z := q
      simp only [this, q, decide_false]
      exact find_untag ms z
theorem put_untag {ms : List (Tag Rat)} {z : Str} {v : V} {a : Rat} : (putM ms z v (((tagOf ms z).map fun m => m.2.2).getD 0 + a)).map untag = addS (ms.map untag) (z, a) := by
  have e : (((ms.map untag).find? fun m => decide (m.1 = z)).map (·.2)).getD 0 = ((tagOf ms z).map fun m => m.2.2).getD 0 := by
    rw [find_untag, Option.map_map]
    rfl
  unfold addS putM
  show List.map untag (if _ then _ else _) = if ((ms.map untag).any fun m => decide (m.1 = z)) = true then _ else _
  have e2 : ((ms.map untag).any fun m => decide (m.1 = z)) = ms.any fun m => decide (m.1 = z) := by
    rw [List.any_map]
    rfl
  rw [e2]
  simp only [e]
  split
  · rw [List.map_map, List.map_map]
    refine List.map_congr_left fun m _ => ?_
    by_cases q : m.1 = z
    · have : (untag m).1 = z := q
      simp only [Function.comp, q, this, if_true]
      simp [untag]
    · have : ¬ (untag m).1 = z := q
      simp only [Function.comp, q, this, if_false]
  · rw [List.map_append]
    rfl
def bare (c : Acc) : Str × List Row := (c.n, c.rows.map (·.2))
def lastR (rows : List Row) : Rat := match rows.getLast? with
  | some r => r.2.2.2
  | none => 0
theorem lastB_bare (c : Acc) : lastB c.rows = lastR (bare c).2 := by
  unfold lastB lastR bare
  rw [List.getLast?_map]
  cases c.rows.getLast? <;> rfl
def postB (day num : Int) (l : List (Str × List Row)) (m : Str × Rat) : List (Str × List Row) := l.map fun c => if c.1 = m.1 then (c.1, c.2 ++ [(day, num, m.2, lastR c.2 + m.2)]) else c
abbrev PstX := BkX × Int × List (Str × Rat)
structure PstOk (x : PstX) : Prop where
  nd : x.1.names.Nodup
  d0 : 0 ≤ x.2.1
  d1 : lastDay x.1.2.2.2.posts ≤ x.2.1
  kn : ∀ e ∈ x.2.2, e.1 ∈ x.1.names
  le : x.2.2.length ≤ 4
  sz : ∀ e ∈ x.2.2, Sz 40 e.2
  zero : rsum ((sumsOf x.2.2).map (·.2)) = 0
  lb : ∀ c ∈ x.1.2.2.2.accs, Sz 3000 (lastB c.rows)
  lp : x.1.2.2.2.posts.length ≤ 1000
  lr : ∀ c ∈ x.1.2.2.2.accs, c.rows.length ≤ 1000
def pstTo (K : PySem.W.Frag) (CB : Addr) (x : PstX) (y : Int) (C' : List RS) : Prop := y = (x.1.2.2.2.posts.length : Int) ∧ ∃ v accs, C' = [rBk K CB x.1.1 x.1.2.1 x.1.2.2.1 ⟨accs, x.1.2.2.2.posts ++ [(v, (x.2.1, x.2.2))]⟩] ∧ accs.map Acc.a = x.1.2.2.2.accs.map Acc.a ∧
  accs.map bare = (sumsOf x.2.2).foldl (postB x.2.1 (x.1.2.2.2.posts.length : Int)) (x.1.2.2.2.accs.map bare)
abbrev spPst (K : PySem.W.Frag) (CB : Addr) : Sp := spS (fun x : PstX => [bkR K CB x.1]) (fun x => [tRf.is x.1.1, tInt.is x.2.1, (tLs K (tPr K tSt (tFr K))).is x.2.2]) tInt PstOk (pstTo K CB)
def addRow (l : List Acc) (z : Str) (e : V × Row) : List Acc := l.map fun c => if c.n = z then ⟨c.n, c.a, c.rows ++ [e]⟩ else c
theorem addRow_a (l : List Acc) (z : Str) (e : V × Row) : (addRow l z e).map Acc.a = l.map Acc.a := by
  unfold addRow
  rw [List.map_map]
  refine List.map_congr_left fun c _ => ?_
  by_cases q : c.n = z <;> simp [q]
theorem addRow_kvs (l : List Acc) (ps ps' : List (V × Post)) (z : Str) (e : V × Row) : (⟨addRow l z e, ps⟩ : Bk).kvs = (⟨l, ps'⟩ : Bk).kvs := by
  unfold Bk.kvs addRow
  rw [List.map_map]
  refine List.map_congr_left fun c _ => ?_
  by_cases q : c.n = z <;> simp [q]
theorem acc_inj {l : List Acc} (nd : (l.map Acc.n).Nodup) {c d : Acc} (hc : c ∈ l) (hd : d ∈ l) (e : c.n = d.n) : c = d := by
  induction l with
  | nil => cases hc
  | cons x l ih =>
    rw [List.map_cons, List.nodup_cons] at nd
    rcases List.mem_cons.mp hc with q | q <;> rcases List.mem_cons.mp hd with q' | q'
    · rw [q, q']
    · subst q; exact absurd (e ▸ List.mem_map.mpr ⟨d, q', rfl⟩) nd.1
    · subst q'; exact absurd (e ▸ List.mem_map.mpr ⟨c, q, rfl⟩) nd.1
    · exact ih nd.2 q q'
theorem rbk_post {CB b pd sd : Addr} {s : Bk} {F H : Hp} {v : V} {x : Post} (nod : (rBk K CB b pd sd s).fp.Nodup) (h : (rBk K CB b pd sd s).p F H) (hv : (tPost K).r F v x) : (rBk K CB b pd sd ⟨s.accs, s.posts ++ [(v, x)]⟩).p F (upd H pd (.lst (s.posts.map (·.1) ++ [v]))) := by
  have nod : (b :: pd :: sd :: s.accs.map Acc.a).Nodup := nod
  obtain ⟨⟨dx, h1⟩, ⟨h2, h3⟩, h4, h5⟩ := h
  have n1 : b ≠ pd := fun e => by simp [e] at nod
  have n2 : sd ≠ pd := fun e => by simp [e] at nod
  have n3 : ∀ c ∈ s.accs, c.a ≠ pd := fun c m e => by
    have : pd ∈ s.accs.map Acc.a := e ▸ List.mem_map.mpr ⟨c, m, rfl⟩
    simp [this] at nod
  refine ⟨⟨dx, by rw [upd_ne n1]; exact h1⟩, ⟨by rw [upd_same, List.map_append]; rfl, fun p m => ?_⟩, by rw [upd_ne n2]; exact h4, fun c m => ⟨by rw [upd_ne (n3 c m)]; exact (h5 c m).1, (h5 c m).2⟩⟩
  rcases List.mem_append.mp m with m | m
  · exact h3 p m
  · rw [List.mem_singleton.mp m]; exact hv
theorem rbk_row {CB b pd sd : Addr} {s : Bk} {F H : Hp} {v : V} {x : Row} {c : Acc} (nd : (s.accs.map Acc.n).Nodup) (mc : c ∈ s.accs) (nod : (rBk K CB b pd sd s).fp.Nodup) (h : (rBk K CB b pd sd s).p F H) (hv : (tRow K).r F v x) : (rBk K CB b pd sd ⟨addRow s.accs c.n (v, x), s.posts⟩).p F (upd H c.a (.lst (c.rows.map (·.1) ++ [v]))) := by
  have nod : (b :: pd :: sd :: s.accs.map Acc.a).Nodup := nod
  obtain ⟨⟨dx, h1⟩, ⟨h2, h3⟩, h4, h5⟩ := h
  have ma : c.a ∈ s.accs.map Acc.a := List.mem_map.mpr ⟨c, mc, rfl⟩
  simp only [List.nodup_cons, List.mem_cons, not_or] at nod
  have n1 : b ≠ c.a := fun e => nod.1.2.2 (e ▸ ma)
  have n2 : pd ≠ c.a := fun e => nod.2.1.2 (e ▸ ma)
  have n3 : sd ≠ c.a := fun e => nod.2.2.1 (e ▸ ma)
  have inj : ∀ {l : List Acc}, (l.map Acc.a).Nodup → ∀ {c d : Acc}, c ∈ l → d ∈ l → c.a = d.a → c = d := by
    intro l
    induction l with
    | nil => intro _ c d hc; cases hc
    | cons x l ih =>
      intro nn c d hc hd e
      rw [List.map_cons, List.nodup_cons] at nn
      rcases List.mem_cons.mp hc with q | q <;> rcases List.mem_cons.mp hd with q' | q'
      · rw [q, q']
      · subst q; exact absurd (e ▸ List.mem_map.mpr ⟨d, q', rfl⟩) nn.1
      · subst q'; exact absurd (e ▸ List.mem_map.mpr ⟨c, q, rfl⟩) nn.1
      · exact ih nn.2 q q' e
  refine ⟨⟨dx, by rw [upd_ne n1]; exact h1⟩, ⟨by rw [upd_ne n2]; exact h2, h3⟩, by rw [upd_ne n3, h4, addRow_kvs s.accs s.posts s.posts], fun c' m => ?_⟩
  obtain ⟨c0, m0, rfl⟩ := List.mem_map.mp (show c' ∈ s.accs.map _ from m)
  by_cases q : c0.n = c.n
  · obtain rfl := acc_inj nd m0 mc q
    rw [if_pos rfl]
    refine ⟨by rw [upd_same, List.map_append]; rfl, fun p mp => ?_⟩
    rcases List.mem_append.mp mp with mp | mp
    · exact (h5 c0 m0).2 p mp
    · rw [List.mem_singleton.mp mp]; exact hv
  · rw [if_neg q]
    have : c0.a ≠ c.a := fun e => q (by rw [inj nod.2.2.2 m0 mc e])
    rw [upd_ne this]
    exact h5 c0 m0
theorem addRow_bare {l : List Acc} {c : Acc} {w : V} {day num : Int} {a : Rat} (nd : (l.map Acc.n).Nodup) (mc : c ∈ l) : (addRow l c.n (w, (day, num, a, lastB c.rows + a))).map bare = postB day num (l.map bare) (c.n, a) := by
  unfold addRow postB
  rw [List.map_map, List.map_map]
  refine List.map_congr_left fun d md => ?_
  by_cases q : d.n = c.n
  · obtain rfl := acc_inj nd md mc q
    simp only [Function.comp, if_true, bare]
    rw [List.map_append, lastB_bare]
    rfl
  · have : (bare d).1 ≠ c.n := q
    simp only [Function.comp, q, this, if_false]
abbrev sBPst : Stmt := inClass (topS 14) 3
theorem scBPst : FnScope ["self", "day", "entries", "sums", "name", "amount", "rest", "number"] ["self", "day", "entries"] (defScope sBPst) := ⟨rfl, rfl, rfl, by decide +kernel, rfl, by decide +kernel, by decide +kernel⟩
theorem ok_post {f CB zZ : Addr} {fd : FuncData} {k : Nat} (F : Fun K "post" "Books.post" sBPst f fd) (BC : BkC K CB) (c_check : CalM P w K mg base k CB "_check" ["self", "name"] (spChk K CB)) (c_balance : CalM P w K mg base k CB "balance" ["self", "name"] (spBal K CB)) (c_latest : CalP P w K mg base k CB "latest_day" (spLat K CB)) (c_plus : Cal P w K mg base (k + 1) "plus" ["a", "b"] (spPlus K)) (c_total : Cal P w K mg base (k + 1) "total" ["values"] (spTotal K))
    (m_ZERO : mg "ZERO" = some (.ref zZ)) (hZ : ∀ H, SqT K H zZ [.int 0, .int 1]) (z_list : mg "list" = none) (z_len : mg "len" = none) : FnOk P w K mg base CX0 (k + 2) f fd ["self", "day", "entries"] (spPst K CB) := by
  have c_check := c_check.mono (Nat.le_succ k)
  have c_balance := c_balance.mono (Nat.le_succ k)
  refine ok_S F scBPst (fun _ => rfl) fun cdv A outer s H0 S x Q E hr hp al0 hMS out => ?_
  have hu := hu_of hr
  refine ⟨_, (pss_cons (ps_if (PW.pt (pw_or (pt_cmpR op_lt (pv 1) pe_int (nomark _)) (pw_or1 (pt_cmpR op_lt (pv 1) (pe_calP (pv 0) c_latest BC.cl hr) (nomark _))))) (pss_one ps_never) pss_nil)
      (pss_cons (ps_set (i := 3) scBPst.nd rfl (Or.inl rfl) pe_dnewK)
      (pss_cons (ps_for PassesOwn.never rfl (pi_list (pv 2)) (pg_tup rfl (pgs_cons (pg_name (i := 4) scBPst.nd rfl (Or.inl rfl)) (pgs_cons (pg_name (i := 5) scBPst.nd rfl (Or.inl rfl)) pgs_nil))) (pss_cons (ps_expr (pe_calM (pv 0) c_check BC.cl hr (pa_cons (pv 4) pa_nil)))
      (pss_one (ps_dput hu (pv 3) (pv 4) (pe_cal c_plus hr (by rfl) (pa_cons (pe_dget2 hu (pv 3) (pv 4) (pe_glob (v := .ref zZ) (by rfl) m_ZERO rfl) ⟨rfl, rfl, rfl, rfl⟩) (pa_cons (pv 5) pa_nil))) rfl))))
      (pss_cons (ps_set (i := 6) scBPst.nd rfl (Or.inl rfl) (pe_cal c_total hr (by rfl) (pa_cons (pe_listVals rfl (by rfl) z_list (pv 3)) pa_nil)))
      (pss_cons (ps_if (pt_cmpR (op_neD hr.units) (pv 6) (pe_glob (v := .ref zZ) (by rfl) m_ZERO rfl) (nomark _)) (pss_one ps_never) pss_nil)
      (pss_cons (ps_set (i := 7) scBPst.nd rfl (Or.inl rfl) (pe_callB call_len_seq (by rfl) z_len PySem.boot_len (pa_cons (pe_fld (pv 0) rfl) pa_nil)))
      (pss_cons (ps_expr (pe_bm PySem.F.plainAttrs_list PySem.F.slot_list_append PySem.F.type_list_append mt_append (pe_fld (pv 0) rfl) (pa_cons (pe_tup (pa_cons (pv 1) (pa_cons (pe_lc (own := [("name", 4), ("amount", 5)]) (g := gTup K 2 (gCons (gName 4) (gCons (gName 5) gNil))) (tt := tYes) rfl scBPst.nd (pi_list (pv 2)) (blkOk_by (own := [("name", 4), ("amount", 5)]) (N := ["self", "day", "entries", "sums", "name", "amount", "rest", "number"]) (sc := defScope sBPst) (by decide +kernel)) (fun _ _ _ _ _ => (pg_tup rfl (pgs_cons (pg_name (i := 4) scBPst.nd rfl (Or.inl rfl)) (pgs_cons (pg_name (i := 5) scBPst.nd rfl (Or.inl rfl)) pgs_nil)))) (fun _ _ _ _ _ => pts_nil) (fun _ _ _ _ _ => (pe_tup (pa_cons (pv 4) (pa_cons (pv 5) pa_nil))))) pa_nil))) pa_nil)))
      (pss_cons (ps_lock (ps_for PassesOwn.never rfl (pi_items (pv 3)) (pg_tup rfl (pgs_cons (pg_name (i := 4) scBPst.nd rfl (Or.inl rfl)) (pgs_cons (pg_name (i := 5) scBPst.nd rfl (Or.inl rfl)) pgs_nil))) (pss_one (ps_expr (pe_bm PySem.F.plainAttrs_list PySem.F.slot_list_append PySem.F.type_list_append mt_append (pe_dget hu (pe_fld (pv 0) rfl) (pv 4) (fun _ _ => rfl)) (pa_cons (pe_tup (pa_cons (pv 1) (pa_cons (pv 7) (pa_cons (pv 5) (pa_cons (pe_cal c_plus hr (by rfl) (pa_cons (pe_calM (pv 0) c_balance BC.cl hr (pa_cons (pv 4) pa_nil)) (pa_cons (pv 5) pa_nil))) pa_nil))))) pa_nil))))))
      (pss_one (ps_ret (pv 7))))))))))), ?_⟩
  obtain ⟨⟨b, pd, sd, s⟩, day, es⟩ := x
  obtain ⟨nd, d0, d1, kn, le, sz, zero, lb, lp, lr⟩ := hp
  refine go_ifr (et_or (et_of (ev_cmp (ev_var rfl) ev_int)) (fun _ => et_of (ev_cmp (ev_var rfl) (evx_prop (r := rBk K CB b pd sd s) (z := (b, pd, sd, s)) (fun F H ⟨⟨dx, h1⟩, _⟩ => ⟨dx, _, h1⟩) (List.mem_cons_self ..) (ev_var rfl) rfl trivial).ev))) (fun h => ?_) (fun _ => ?_)
  · have d0 : 0 ≤ day := d0
    have d1 : lastDay s.posts ≤ day := d1
    rw [Bool.or_eq_true, decide_eq_true_eq, decide_eq_true_eq] at h
    have h : day < 0 ∨ day < lastDay s.posts := h
    omega
  refine go_newM (tFr K) fun p np => ?_
  have le : es.length ≤ 4 := le
  have sz : ∀ e ∈ es, Sz 40 e.2 := sz
  have kn : ∀ e ∈ es, e.1 ∈ s.accs.map Acc.n := kn
  refine go_seq (go_for (xs := es) (iv_list (t := tPr K tSt (tFr K)) (ev_var rfl)) tgt_pair (fun k (ms : List (Tag Rat)) => ([cell p (cMap (tFr K) ms), rBk K CB b pd sd s], [some (tRf.is b), some (tInt.is day), some ((tLs K (tPr K tSt (tFr K))).is es), some (tRf.is p), none, none, none, none]))
    (fun k ms => ms.map untag = sumsOf (es.take k) ∧ (∀ m ∈ ms, Sz (41 * k + 1) m.2.2) ∧ ms.length ≤ k ∧ ∀ m ∈ ms, m.1 ∈ s.accs.map Acc.n) [] ⟨rfl, (fun m mm => nomatch mm), Nat.le_refl _, (fun m mm => nomatch mm)⟩ (fun σ H o => o.sb (by walk_at "sb")) (fun k ms x f hx hk => ?_) (fun ms hk σ H o => ?_))
  · obtain ⟨h1, h2, h3, h4⟩ := hk
    have hkl : k < es.length := (List.getElem?_eq_some_iff.mp hx).1
    have mx : x ∈ es := List.mem_of_getElem? hx
    refine go_dropx (evx_meth (r := rBk K CB b pd sd s) (z := ((b, pd, sd, s), x.1)) (bk_ob "_check" rfl) (List.mem_cons_of_mem _ (List.mem_cons_self ..)) (ev_var rfl) (ea_cons (ev_var rfl) ea_nil) rfl (kn x mx) (hC := List.Sublist.cons _ (List.Sublist.refl _))) fun _ _ => ?_
    have old : Sz (41 * k + 1) (((tagOf ms x.1).map fun m => m.2.2).getD 0) := by
      cases q : tagOf ms x.1 with
      | none => exact sz_zero (by omega)
      | some m => exact h2 m (List.mem_of_find?_eq_some q)
    refine go_putM (t := tFr K) (z := x.1) (P := fun y => y = ((tagOf ms x.1).map fun m => m.2.2).getD 0 + x.2) rfl (List.Perm.refl _) (ev_var rfl) (Ev.xe (ev_call (z := (((tagOf ms x.1).map fun m => m.2.2).getD 0, x.2)) (ea_cons (ev_getM (List.mem_cons_self ..) (ev_var rfl) (ev_var rfl) (ev_k (t := tFr K) (x := 0) fun H => ⟨zZ, rfl, hZ H⟩)) (ea_cons (ev_var rfl) ea_nil)) ⟨old.mono (by omega), (sz x mx).mono (by decide)⟩)) (by rw [sizeLine_eq]; omega) fun v y hy σ H o => ⟨putM ms x.1 v y, ⟨?_, ?_, ?_, ?_⟩, o.sb (by walk_at "sb")⟩
    · rw [hy, put_untag, h1, take_snoc hx]
      unfold sumsOf
      rw [List.foldl_append]
      rfl
    · intro m mm
      have hy2 : Sz (41 * (k + 1) + 1) y := by
        rw [hy]
        exact (sz_addN old (sz x mx)).mono (by omega)
      unfold putM at mm
      split at mm
      · obtain ⟨m0, mm0, rfl⟩ := List.mem_map.mp mm
        by_cases q : m0.1 = x.1
        · rw [if_pos q]; exact hy2
        · rw [if_neg q]; exact (h2 m0 mm0).mono (by omega)
      · rcases List.mem_append.mp mm with mm | mm
        · exact (h2 m mm).mono (by omega)
        · rw [List.mem_singleton.mp mm]; exact hy2
    · unfold putM
      split
      · rw [List.length_map]; omega
      · rw [List.length_append, List.length_singleton]; omega
    · intro m mm
      unfold putM at mm
      split at mm
      · obtain ⟨m0, mm0, rfl⟩ := List.mem_map.mp mm
        by_cases q : m0.1 = x.1
        · rw [if_pos q]; exact h4 m0 mm0
        · rw [if_neg q]; exact h4 m0 mm0
      · rcases List.mem_append.mp mm with mm | mm
        · exact h4 m mm
        · rw [List.mem_singleton.mp mm]; exact kn x mx
  · obtain ⟨h1, h2, h3, h4⟩ := hk
    rw [List.take_length] at h1
    have zero : rsum ((sumsOf es).map (·.2)) = 0 := zero
    have e0 : (ms.map fun m => m.2.2) = (sumsOf es).map (·.2) := by rw [← h1, List.map_map]; rfl
    dsimp only
    refine go_at o ?_
    refine go_set (x := rsum ((sumsOf es).map (·.2))) (ev_is (ev_call (z := (ms.map fun m => m.2.2)) (ea_cons (ev_valsM (K := K) (List.mem_cons_self ..) (ev_var rfl)) ea_nil) ⟨fun r mr => ?_, ?_⟩) (by rw [e0])) ?_
    · obtain ⟨m, mm, rfl⟩ := List.mem_map.mp mr
      exact (h2 m mm).mono (by omega)
    · rw [List.length_map]; omega
    refine go_ifr (et_of (ev_neD eqFr (ev_var rfl) (ev_k (t := tFr K) (x := 0) fun H => ⟨zZ, rfl, hZ H⟩) (lay_fr _) (lay_fr _) (by simp [eqFr]))) (fun h => ?_) (fun _ => ?_)
    · rw [zero] at h
      simp at h
    have pe : ∀ W : Wd, rBk K CB b pd sd s ∈ W.L → W.G[0]? = some (some (tRf.is b)) → Ev W (tFld K (tVar 0) "posted") tRf pd := fun W hr h0 => ev_fldR hr bk_posted (ev_var h0) BC.cl BC.n0
    refine go_set (x := (s.posts.length : Int)) (ev_is (ev_lenR (r := rBk K CB b pd sd s) (List.mem_cons_of_mem _ (List.mem_cons_self ..)) bk_posts.l (pe _ (List.mem_cons_of_mem _ (List.mem_cons_self ..)) rfl)) (by rw [List.length_map])) ?_
    have lp : s.posts.length ≤ 1000 := lp
    have le' : es.length < sizeLine := by rw [sizeLine_eq]; omega
    refine go_seq (go_appR (t := tPost K) (x := (day, es)) (r := rBk K CB b pd sd s) (r' := fun v => rBk K CB b pd sd ⟨s.accs, s.posts ++ [(v, (day, es))]⟩) (q := pd) (R := [cell p (cMap (tFr K) ms)]) (List.Perm.swap ..) (pe _ (List.mem_cons_of_mem _ (List.mem_cons_self ..)) rfl) bk_posts
      (ev_pr (ev_var rfl) (ev_is (ev_lcm (K := K) (u := tPr K tSt (tFr K)) (f := fun x : Str × Rat => (x.1, x.2)) (iv_list (t := tPr K tSt (tFr K)) (ev_var rfl)) tgt_pair (by simp) le' (fun _ _ _ x _ xm => ev_pr (ev_var rfl) (ev_var rfl))) (List.map_id' _))) (by rw [sizeLine_eq]; omega) (fun v => rfl) (by simp [rBk]) (fun v F H nod hp hv => rbk_post nod hp hv) rfl (fun v σ H o => ?_))
    refine go_at o ?_
    have nd : (s.accs.map Acc.n).Nodup := nd
    have lb : ∀ c ∈ s.accs, Sz 3000 (lastB c.rows) := lb
    have lr : ∀ c ∈ s.accs, c.rows.length ≤ 1000 := lr
    refine go_seq (go_itemsM (p := p) (ms := ms) (R := [rBk K CB b pd sd ⟨s.accs, s.posts ++ [(v, (day, es))]⟩]) rfl (List.Perm.swap ..) (fun k (accs : List Acc) => ([rBk K CB b pd sd ⟨accs, s.posts ++ [(v, (day, es))]⟩], [some (tRf.is b), some (tInt.is day), some ((tLs K (tPr K tSt (tFr K))).is es), some (tRf.is p), none, none, none, some (tInt.is (s.posts.length : Int))]))
      (fun k accs => accs.map Acc.a = s.accs.map Acc.a ∧ accs.map bare = ((ms.map untag).take k).foldl (postB day (s.posts.length : Int)) (s.accs.map bare) ∧ accs.map Acc.n = s.accs.map Acc.n ∧ (∀ c ∈ accs, Sz (3000 + 200 * k) (lastB c.rows) ∧ c.rows.length ≤ 1000 + k)) s.accs ⟨rfl, rfl, rfl, fun c m => ⟨lb c m, lr c m⟩⟩ (fun od σ H o => o.sb (by walk_at "sb")) (fun od k accs m B V' hm hk => ?_) (fun accs hk σ H o => ?_))
    · obtain ⟨q1, q2, q3, q4⟩ := hk
      have mm := List.mem_of_getElem? hm
      have hkl : k < ms.length := (List.getElem?_eq_some_iff.mp hm).1
      have hz := h4 m mm
      have ha := h2 m mm
      obtain ⟨z, tg, a⟩ := m
      rw [← q3] at hz
      obtain ⟨c, mc, e⟩ := List.mem_map.mp hz
      obtain rfl : c.n = z := e
      have nd' : (accs.map Acc.n).Nodup := by rw [q3]; exact nd
      have ha : Sz (41 * es.length + 1) a := ha
      refine go_appR (t := tRow K) (x := (day, (s.posts.length : Int), a, lastB c.rows + a)) (r := rBk K CB b pd sd ⟨accs, s.posts ++ [(v, (day, es))]⟩) (r' := fun w => rBk K CB b pd sd ⟨addRow accs c.n (w, (day, (s.posts.length : Int), a, lastB c.rows + a)), s.posts ++ [(v, (day, es))]⟩) (q := c.a) (R := [cell p (cFz (tFr K) od ms)]) (List.Perm.swap ..) (rowsEv (s := ⟨accs, s.posts ++ [(v, (day, es))]⟩) BC nd' mc _ (List.mem_cons_of_mem _ (List.mem_cons_self ..)) rfl rfl) (bk_rows mc) ?_ ?_ (fun w => ?_) ?_ (fun w F H nod hp hv => rbk_row nd' mc nod hp hv) rfl (fun w σ H o => ?_)
      · refine ev_tup (K := K) (α := Row) (ea_cons (ev_var rfl) (ea_cons (ev_var rfl) (ea_cons (ev_var rfl) (ea_cons (ev_call (z := (lastB c.rows, a)) (ea_cons (evx_meth (r := rBk K CB b pd sd ⟨accs, s.posts ++ [(v, (day, es))]⟩) (z := (((b, pd, sd, ⟨accs, s.posts ++ [(v, (day, es))]⟩), c.n), c)) (bk_ob "balance" rfl) (List.mem_cons_of_mem _ (List.mem_cons_self ..)) (ev_var rfl) (ea_cons (ev_var rfl) ea_nil) rfl ⟨nd', mc, rfl⟩ (hC := List.Sublist.cons _ (List.Sublist.refl _))).ev (ea_cons (ev_var rfl) ea_nil)) ⟨(q4 c mc).1.mono (by omega), ha.mono (by omega)⟩) ea_nil)))) rfl (by show 4 ≤ sizeLine; decide)
      · have := (q4 c mc).2
        rw [sizeLine_eq]; omega
      · show b :: pd :: sd :: (addRow accs c.n _).map Acc.a = b :: pd :: sd :: accs.map Acc.a
        rw [addRow_a]
      · show c.a ∈ b :: pd :: sd :: accs.map Acc.a
        exact List.mem_cons_of_mem _ (List.mem_cons_of_mem _ (List.mem_cons_of_mem _ (List.mem_map.mpr ⟨c, mc, rfl⟩)))
      · have hb : (addRow accs c.n (w, (day, (s.posts.length : Int), a, lastB c.rows + a))).map bare = postB day (s.posts.length : Int) (accs.map bare) (c.n, a) := addRow_bare nd' mc
        refine ⟨addRow accs c.n (w, (day, (s.posts.length : Int), a, lastB c.rows + a)), ⟨by rw [addRow_a, q1], ?_, ?_, fun c' m' => ?_⟩, (o.perm (List.Perm.swap ..)).sb (by walk_at "sb")⟩
        · have hu : (ms.map untag)[k]? = some (c.n, a) := by rw [List.getElem?_map, hm]; rfl
          rw [hb, q2, take_snoc hu, List.foldl_append]
          rfl
        · rw [← q3]
          unfold addRow
          rw [List.map_map]
          refine List.map_congr_left fun d _ => ?_
          by_cases q : d.n = c.n <;> simp [q]
        · obtain ⟨c0, m0, rfl⟩ := List.mem_map.mp (show c' ∈ accs.map _ from m')
          by_cases q : c0.n = c.n
          · obtain rfl := acc_inj nd' m0 mc q
            rw [if_pos rfl]
            refine ⟨?_, by show (c0.rows ++ [_]).length ≤ _; rw [List.length_append, List.length_singleton]; have := (q4 c0 m0).2; omega⟩
            have : lastB (c0.rows ++ [(w, (day, (s.posts.length : Int), a, lastB c0.rows + a))]) = lastB c0.rows + a := by
              show lastB (c0.rows ++ [_]) = _
              conv => lhs; unfold lastB
              rw [List.getLast?_append]
              rfl
            rw [this]
            exact (sz_addN (q4 c0 m0).1 ha).mono (by omega)
          · rw [if_neg q]
            exact ⟨(q4 c0 m0).1.mono (by omega), by have := (q4 c0 m0).2; omega⟩
    · obtain ⟨q1, q2, q3, q4⟩ := hk
      have e1 : (ms.map untag).take ms.length = sumsOf es := by rw [← h1, ← List.length_map (f := untag), List.take_length]
      rw [e1] at q2
      dsimp only
      show tRet (tVar 7) _ σ H
      refine ev_var (t := tInt) (x := (s.posts.length : Int)) (n := 7) rfl σ H o _ fun w H' g r => ?_
      have fe : ∀ a, a ∈ fps [rBk K CB b pd sd ⟨accs, s.posts ++ [(v, (day, es))]⟩] → a ∈ S := fun a ma => hMS a (by
        have ma : a ∈ b :: pd :: sd :: (accs.map Acc.a ++ []) := ma
        rw [q1] at ma
        exact ma)
      have o' := Ok.drop (N := [p]) g.ok fe hMS
      exact ends_S (y := (s.posts.length : Int)) (N := []) (C' := [rBk K CB b pd sd ⟨accs, s.posts ++ [(v, (day, es))]⟩]) o' out r ⟨rfl, v, accs, rfl, q1, q2⟩ rfl (List.Perm.refl _) rfl al0 (fun a m => nomatch m) hMS
end
end Cs
set_option maxHeartbeats 4000000
namespace Cs
open PySem PySem.Spec PyProof.Rows L2
local macro_rules | `(tactic| walk_at "rd") => `(tactic| (first
  | (refine ⟨_, rfl, ?_⟩)
  | (refine ⟨_, _, rfl, rfl, ?_⟩)
  | (refine .inl ⟨_, rfl, ?_⟩)
  | (refine .inr ⟨_, rfl, ?_⟩)
  | (refine ⟨_, _, _, _, rfl, rfl, SqL.of upd_same, rfl, ?_⟩)
  | (refine ⟨_, _, _, _, rfl, rfl, upd_same, rfl, ?_⟩)
  | (refine ⟨_, ?xs, _, ?v, rfl, rfl, ?h, ?x, ?_⟩; (case h => first | exact SqL.of (by assumption) | exact SqT.of (by assumption) | assumption); (case x => first | rfl | exact atI_nat (j := 0) rfl | exact atI_nat (j := 1) rfl))))
local macro_rules | `(tactic| walk_at "isi") => `(tactic| (first
  | (refine ⟨_, _, _, _, _, rfl, .ty _, .base (.int _), kit_ty kit_it, ?_⟩)
  | (refine ⟨_, _, _, _, _, rfl, .ty _, .base (.int _), kit_ty kit_ib, ?_⟩)
  | (refine ⟨_, _, _, _, _, rfl, .ty _, .base (.int _), kit_ty kit_ii, ?_⟩)
  | (refine ⟨_, _, _, _, _, rfl, .ty _, .base (.bl _), kit_ty kit_bt, ?_⟩)
  | (refine ⟨_, _, _, _, _, rfl, .ty _, .base (.bl _), kit_ty kit_bb, ?_⟩)
  | (refine ⟨_, _, _, _, _, rfl, .ty _, .base (.bl _), kit_ty kit_bi, ?_⟩)))
local macro_rules | `(tactic| walk_at "ev") => `(tactic| (first
  | exact ev_var rfl
  | exact ev_int
  | exact ev_str
  | exact ev_bl
  | exact ev_non
  | (refine ev_add ?_ ?_ <;> walk_at "ev")
  | (refine ev_sub ?_ ?_ <;> walk_at "ev")
  | (refine ev_mul ?_ ?_ ?_ <;> (try walk_at "ev"))
  | (refine ev_neg ?_ <;> walk_at "ev")
  | (refine ev_num ?_ <;> walk_at "ev")
  | (refine ev_den ?_ <;> walk_at "ev")
  | (refine ev_cmp ?_ ?_ <;> walk_at "ev")
  | (refine ev_eqI ?_ ?_ <;> walk_at "ev")
  | (refine ev_eqS ?_ ?_ <;> walk_at "ev")
  | (refine ev_neI ?_ ?_ <;> walk_at "ev")
  | (refine ev_neS ?_ ?_ <;> walk_at "ev")
  | (refine ev_inS ?_ ?_ <;> walk_at "ev")
  | (refine ev_niS ?_ ?_ <;> walk_at "ev")
  | (refine ev_len ?_ <;> walk_at "ev")
  | (refine ev_list ?_ <;> walk_at "ev")
  | (refine ev_listRev ?_ <;> walk_at "ev")
  | (refine ev_int1 ?_ <;> walk_at "ev")))
local macro_rules | `(tactic| walk_at "ea") => `(tactic| (first
  | exact ea_nil
  | (refine ea_cons ?_ ?_ <;> (first | walk_at "ev" | walk_at "ea" | skip))))
local macro_rules | `(tactic| walk_at "sb") => `(tactic| (first | exact True.intro | (refine And.intro rfl ?_; walk_at "sb")))
section
variable {P : Program} {w : World} {K : PySem.W.Frag} {mg : Str → Option Value} {base : Heap}
/-! ### what the postings say of an account -/
def amts (es : List (Str × Rat)) (z : Str) : List Rat := (es.filter fun e => decide (e.1 = z)).map (·.2)
def stepS (rows : List Row) (n : Int) (p : Post) (z : Str) : List Row := if amts p.2 z = [] then rows else rows ++ [(p.1, n, rsum (amts p.2 z), lastR rows + rsum (amts p.2 z))]
def stmtN (ps : List Post) (z : Str) : Nat → List Row
  | 0 => []
  | n + 1 => match ps[n]? with
    | some p => stepS (stmtN ps z n) (n : Int) p z
    | none => stmtN ps z n
def stmt (ps : List Post) (z : Str) : List Row := stmtN ps z ps.length
theorem stmtN_app (ps qs : List Post) (z : Str) : ∀ n, n ≤ ps.length → stmtN (ps ++ qs) z n = stmtN ps z n
  | 0, _ => rfl
  | n + 1, h => by
    unfold stmtN
    rw [List.getElem?_append_left (by omega), stmtN_app ps qs z n (by omega)]
theorem stmtN_succ {ps : List Post} {z : Str} {n : Nat} {p : Post} (h : ps[n]? = some p) : stmtN ps z (n + 1) = stepS (stmtN ps z n) (n : Int) p z := by
  show (match ps[n]? with | some p => stepS (stmtN ps z n) (n : Int) p z | none => stmtN ps z n) = _
  rw [h]
theorem stmt_snoc (ps : List Post) (p : Post) (z : Str) : stmt (ps ++ [p]) z = stepS (stmt ps z) (ps.length : Int) p z := by
  unfold stmt
  rw [List.length_append, List.length_singleton, stmtN_succ (p := p) (by rw [List.getElem?_append_right (Nat.le_refl _), Nat.sub_self]; rfl), stmtN_app ps [p] z ps.length (Nat.le_refl _)]
theorem lastR_snoc (rows : List Row) (r : Row) : lastR (rows ++ [r]) = r.2.2.2 := by
  unfold lastR
  rw [List.getLast?_append]
  rfl
theorem lastR_step (rows : List Row) (n : Int) (p : Post) (z : Str) : lastR (stepS rows n p z) = lastR rows + rsum (amts p.2 z) := by
  unfold stepS
  split
  · rename_i h
    rw [h, rsum_nil]
    grind
  · rw [lastR_snoc]
theorem amts_snoc (es : List (Str × Rat)) (e : Str × Rat) (z : Str) : amts (es ++ [e]) z = amts es z ++ (if e.1 = z then [e.2] else []) := by
  unfold amts
  rw [List.filter_append, List.map_append]
  by_cases q : e.1 = z <;> simp [q]
theorem amts_cons (es : List (Str × Rat)) (e : Str × Rat) (z : Str) : amts (e :: es) z = (if e.1 = z then [e.2] else []) ++ amts es z := by
  unfold amts
  rw [List.filter_cons]
  by_cases q : e.1 = z <;> simp [q]
theorem bare_n (l : List Acc) : l.map Acc.n = (l.map bare).map (·.1) := by rw [List.map_map]; rfl
/-! ### sums by names -/
def findS (ms : List (Str × Rat)) (z : Str) : Option (Str × Rat) := ms.find? fun m => decide (m.1 = z)
theorem findS_some {ms : List (Str × Rat)} {z : Str} {m : Str × Rat} (h : findS ms z = some m) : m.1 = z := of_decide_eq_true (p := m.1 = z) (List.find?_some (p := fun m : Str × Rat => decide (m.1 = z)) h)
theorem findS_any {ms : List (Str × Rat)} {z : Str} : (ms.any fun m => decide (m.1 = z)) = (findS ms z).isSome := by
  unfold findS
  induction ms with
  | nil => rfl
  | cons m ms ih =>
    rw [List.any_cons, List.find?_cons, ih]
    cases decide (m.1 = z) <;> rfl
theorem findS_none {ms : List (Str × Rat)} {z : Str} (h : z ∉ ms.map (·.1)) : findS ms z = none := List.find?_eq_none.mpr fun m mm q => h (List.mem_map.mpr ⟨m, mm, of_decide_eq_true q⟩)
theorem addS_eq (ms : List (Str × Rat)) (e : Str × Rat) : addS ms e = if (findS ms e.1).isSome = true then ms.map (fun m => if m.1 = e.1 then (m.1, ((findS ms e.1).map (·.2)).getD 0 + e.2) else m) else ms ++ [(e.1, ((findS ms e.1).map (·.2)).getD 0 + e.2)] := by
  unfold addS
  rw [findS_any]
  rfl
theorem addS_names (ms : List (Str × Rat)) (e : Str × Rat) : (addS ms e).map (·.1) = if (findS ms e.1).isSome = true then ms.map (·.1) else ms.map (·.1) ++ [e.1] := by
  rw [addS_eq]
  split
  · rw [List.map_map]
    refine List.map_congr_left fun m _ => ?_
    by_cases q : m.1 = e.1 <;> simp [q]
  · rw [List.map_append]
    rfl
theorem mem_of_findS {ms : List (Str × Rat)} {z : Str} (h : (findS ms z).isSome = true) : z ∈ ms.map (·.1) := by
  cases q : findS ms z with
  | none => rw [q] at h; cases h
  | some m => exact List.mem_map.mpr ⟨m, List.mem_of_find?_eq_some q, findS_some q⟩
theorem addS_nodup {ms : List (Str × Rat)} (h : (ms.map (·.1)).Nodup) (e : Str × Rat) : ((addS ms e).map (·.1)).Nodup := by
  rw [addS_names]
  split
  · exact h
  · rename_i q
    rw [List.nodup_append]
    refine ⟨h, by simp, fun a ma b mb eq => q ?_⟩
    rw [List.mem_singleton.mp mb] at eq
    subst eq
    cases z : findS ms e.1 with
    | some _ => rfl
    | none =>
      obtain ⟨m, mm, em⟩ := List.mem_map.mp ma
      have := List.find?_eq_none.mp z m mm
      simp [em] at this
theorem findS_map (ms : List (Str × Rat)) (w : Str) (v : Rat) (z : Str) : findS (ms.map fun m => if m.1 = w then (m.1, v) else m) z = if z = w then (findS ms w).map (fun m => (m.1, v)) else findS ms z := by
  induction ms with
  | nil => by_cases q : z = w <;> simp [findS, q]
  | cons m ms ih =>
    unfold findS at ih ⊢
    rw [List.map_cons, List.find?_cons, ih]
    by_cases a : m.1 = w
    · by_cases b : z = w
      · subst b
        simp [a]
      · have : ¬ w = z := fun e => b e.symm
        simp [a, b, this]
    · by_cases b : z = w
      · subst b
        simp [a]
      · by_cases c : m.1 = z
        · simp [a, b, c]
        · simp [a, b, c]
theorem findS_add (ms : List (Str × Rat)) (e : Str × Rat) (z : Str) : findS (addS ms e) z = if z = e.1 then some (e.1, ((findS ms e.1).map (·.2)).getD 0 + e.2) else findS ms z := by
  rw [addS_eq]
  cases q : findS ms e.1 with
  | some m =>
    simp only [Option.isSome_some, if_true]
    rw [findS_map]
    split
    · rw [q]
      simp [findS_some q]
    · rfl
  | none =>
    simp only [Option.isSome_none, Bool.false_eq_true, if_false]
    unfold findS at q ⊢
    rw [List.find?_append]
    by_cases c : z = e.1
    · subst c
      rw [q]
      simp
    · have : ¬ e.1 = z := fun x => c x.symm
      simp [c, this]
theorem sumsOf_snoc (es : List (Str × Rat)) (e : Str × Rat) : sumsOf (es ++ [e]) = addS (sumsOf es) e := by
  unfold sumsOf
  rw [List.foldl_append]
  rfl
theorem snoc_ind {α : Type} {P : List α → Prop} (h0 : P []) (hs : ∀ l x, P l → P (l ++ [x])) : ∀ l, P l := fun l => by
  rw [← List.reverse_reverse l]
  induction l.reverse with
  | nil => exact h0
  | cons x t ih => rw [List.reverse_cons]; exact hs _ _ ih
theorem sums_nodup (es : List (Str × Rat)) : ((sumsOf es).map (·.1)).Nodup := snoc_ind (P := fun es => ((sumsOf es).map (·.1)).Nodup) (by show ([] : List Str).Nodup; simp) (fun l e ih => by rw [sumsOf_snoc]; exact addS_nodup ih e) es
theorem sums_find (es : List (Str × Rat)) (z : Str) : findS (sumsOf es) z = if amts es z = [] then none else some (z, rsum (amts es z)) := by
  refine snoc_ind (P := fun es => ∀ z, findS (sumsOf es) z = if amts es z = [] then none else some (z, rsum (amts es z))) (fun z => rfl) (fun l e ih z => ?_) es z
  rw [sumsOf_snoc, findS_add, amts_snoc, ih e.1, ih z]
  by_cases q : z = e.1
  · have q2 : e.1 = z := q.symm
    rw [if_pos q, if_pos q2, if_neg (by simp : ¬ (amts l z ++ [e.2] = [])), rsum_app, rsum_cons, rsum_nil, Rat.add_zero, q2]
    by_cases h : amts l z = []
    · rw [if_pos h, h, rsum_nil]; rfl
    · rw [if_neg h]; rfl
  · have : ¬ e.1 = z := fun x => q x.symm
    rw [if_neg q, if_neg this, List.append_nil]
theorem sums_names (es : List (Str × Rat)) : ∀ z, z ∈ (sumsOf es).map (·.1) → z ∈ es.map (·.1) := by
  refine snoc_ind (P := fun es => ∀ z, z ∈ (sumsOf es).map (·.1) → z ∈ es.map (·.1)) (fun z m => m) (fun l e ih z m => ?_) es
  rw [sumsOf_snoc, addS_names] at m
  rw [List.map_append]
  split at m
  · exact List.mem_append_left _ (ih z m)
  · rcases List.mem_append.mp m with m | m
    · exact List.mem_append_left _ (ih z m)
    · exact List.mem_append_right _ m
theorem rsum_put {w : Str} {v : Rat} : ∀ {ms : List (Str × Rat)}, (ms.map (·.1)).Nodup → (findS ms w).isSome = true → rsum ((ms.map fun m => if m.1 = w then (m.1, ((findS ms w).map (·.2)).getD 0 + v) else m).map (·.2)) = rsum (ms.map (·.2)) + v := by
  have key : ∀ (u : Rat) {ms : List (Str × Rat)}, (ms.map (·.1)).Nodup → ∀ m0, findS ms w = some m0 → rsum ((ms.map fun m => if m.1 = w then (m.1, u) else m).map (·.2)) = rsum (ms.map (·.2)) + (u - m0.2) := by
    intro u ms
    induction ms with
    | nil => intro _ m0 h; cases h
    | cons m ms ih =>
      intro nd m0 h
      rw [List.map_cons, List.nodup_cons] at nd
      unfold findS at h
      rw [List.find?_cons] at h
      simp only [List.map_cons, rsum_cons]
      by_cases q : m.1 = w
      · simp only [q, decide_true, Option.some.injEq] at h
        subst h
        have off : ms.map (fun m => if m.1 = w then (m.1, u) else m) = ms := by
          refine (List.map_congr_left fun m' mm => ?_).trans (List.map_id ms)
          have : m'.1 ≠ w := fun e => nd.1 (by rw [q, ← e]; exact List.mem_map.mpr ⟨m', mm, rfl⟩)
          simp [this]
        rw [off]
        simp only [q, if_true]
        grind
      · simp only [q, decide_false] at h
        simp only [q, if_false]
        rw [ih nd.2 m0 h]
        grind
  intro ms nd hs
  cases q : findS ms w with
  | none => rw [q] at hs; cases hs
  | some m0 =>
    have := key (m0.2 + v) nd m0 q
    simp only [Option.map_some, Option.getD_some]
    rw [this]
    grind
theorem sums_total (es : List (Str × Rat)) : rsum ((sumsOf es).map (·.2)) = rsum (es.map (·.2)) := by
  refine snoc_ind (P := fun es => rsum ((sumsOf es).map (·.2)) = rsum (es.map (·.2))) rfl (fun l e ih => ?_) es
  rw [sumsOf_snoc, addS_eq, List.map_append, rsum_app]
  split
  · rename_i h
    rw [rsum_put (sums_nodup l) h, ih]
    simp [rsum_cons, rsum_nil, Rat.add_zero]
  · rename_i h
    have : findS (sumsOf l) e.1 = none := by
      cases q : findS (sumsOf l) e.1 with
      | none => rfl
      | some _ => rw [q] at h; exact absurd rfl h
    rw [this, List.map_append, rsum_app, ih]
    simp [rsum_cons, rsum_nil, Rat.add_zero, Rat.zero_add]
/-- posting the sums row by row -/
theorem fold_post (day num : Int) : ∀ (ms : List (Str × Rat)) (l : List (Str × List Row)), (ms.map (·.1)).Nodup → ms.foldl (postB day num) l = l.map fun c => match findS ms c.1 with
    | some m => (c.1, c.2 ++ [(day, num, m.2, lastR c.2 + m.2)])
    | none => c
  | [], l, _ => by
    show l = _
    refine (List.map_id l).symm.trans (List.map_congr_left fun c _ => rfl)
  | m :: ms, l, nd => by
    rw [List.map_cons, List.nodup_cons] at nd
    show ms.foldl (postB day num) (postB day num l m) = _
    rw [fold_post day num ms _ nd.2]
    unfold postB
    rw [List.map_map]
    refine List.map_congr_left fun c _ => ?_
    by_cases q : c.1 = m.1
    · have n1 : findS ms m.1 = none := findS_none nd.1
      have n2 : findS (m :: ms) m.1 = some m := by unfold findS; rw [List.find?_cons]; simp
      simp only [Function.comp, q, if_true, n1, n2]
    · have : findS (m :: ms) c.1 = findS ms c.1 := by
        unfold findS
        rw [List.find?_cons]
        have : ¬ m.1 = c.1 := fun e => q e.symm
        simp [this]
      simp only [Function.comp, q, if_false, this]
theorem post_stmt {day : Int} {es : List (Str × Rat)} {as : List Str} {ps : List Post} : (sumsOf es).foldl (postB day (ps.length : Int)) (as.map fun z => (z, stmt ps z)) = as.map fun z => (z, stmt (ps ++ [(day, es)]) z) := by
  rw [fold_post day _ _ _ (sums_nodup es), List.map_map]
  refine List.map_congr_left fun z _ => ?_
  simp only [Function.comp, sums_find]
  rw [stmt_snoc]
  unfold stepS
  show (match (if amts es z = [] then none else some (z, rsum (amts es z))) with | some m => _ | none => _) = (z, if amts es z = [] then _ else _)
  by_cases q : amts es z = []
  · rw [if_pos q, if_pos q]
  · rw [if_neg q, if_neg q]
/-! ### sizes -/
/-- sixtieths -/
def Dn (n : Nat) (r : Rat) : Prop := ∃ k : Int, r = Rat.divInt k 60 ∧ k.natAbs ≤ n
theorem Dn.mono {n m : Nat} {r : Rat} (h : Dn n r) (e : n ≤ m) : Dn m r := by
  obtain ⟨k, h1, h2⟩ := h
  exact ⟨k, h1, Nat.le_trans h2 e⟩
theorem Dn.zero (n : Nat) : Dn n 0 := ⟨0, (Rat.zero_divInt 60).symm, Nat.zero_le _⟩
theorem Dn.add {n m : Nat} {r s : Rat} (h : Dn n r) (g : Dn m s) : Dn (n + m) (r + s) := by
  obtain ⟨k, rfl, h2⟩ := h
  obtain ⟨l, rfl, g2⟩ := g
  refine ⟨k + l, ?_, by have := Int.natAbs_add_le k l; omega⟩
  rw [Rat.divInt_eq_div, Rat.divInt_eq_div, Rat.divInt_eq_div, Rat.intCast_add]
  grind
theorem Dn.neg {n : Nat} {r : Rat} (h : Dn n r) : Dn n (0 - r) := by
  obtain ⟨k, rfl, h2⟩ := h
  refine ⟨-k, ?_, by omega⟩
  rw [Rat.divInt_eq_div, Rat.divInt_eq_div, Rat.intCast_neg]
  grind
theorem Dn.sz {n m : Nat} {r : Rat} (h : Dn n r) (e : n < 2 ^ m) (e2 : 60 < 2 ^ m) : Sz m r := by
  obtain ⟨k, rfl, h2⟩ := h
  exact sz_div (by decide) (by omega) e2
theorem Dn.of {d j : Int} (h1 : 0 ≤ d) (h2 : d < 40) (h3 : 0 ≤ j) (h4 : j < 6) : Dn 1440 (Rat.divInt (d - 15) (1 + j)) := by
  obtain ⟨k, hk, hk2⟩ : ∃ k : Int, (1 + j) * k = 60 ∧ 0 < k ∧ k ≤ 60 := by
    have : j = 0 ∨ j = 1 ∨ j = 2 ∨ j = 3 ∨ j = 4 ∨ j = 5 := by omega
    rcases this with rfl | rfl | rfl | rfl | rfl | rfl
    · exact ⟨60, by decide, by decide⟩
    · exact ⟨30, by decide, by decide⟩
    · exact ⟨20, by decide, by decide⟩
    · exact ⟨15, by decide, by decide⟩
    · exact ⟨12, by decide, by decide⟩
    · exact ⟨10, by decide, by decide⟩
  refine ⟨(d - 15) * k, ?_, ?_⟩
  · rw [← hk, Rat.divInt_mul_right (by omega)]
  · rw [Int.natAbs_mul]
    have a : (d - 15).natAbs ≤ 24 := by omega
    have b : k.natAbs ≤ 60 := by omega
    exact Nat.le_trans (Nat.mul_le_mul a b) (by decide)
theorem rsum_dn {n : Nat} : ∀ {xs : List Rat}, (∀ r ∈ xs, Dn n r) → Dn (n * xs.length) (rsum xs)
  | [], _ => Dn.zero _
  | x :: xs, h => by
    rw [rsum_cons, List.length_cons, Nat.mul_succ, Nat.add_comm]
    exact (h x (List.mem_cons_self ..)).add (rsum_dn fun r m => h r (List.mem_cons_of_mem _ m))
theorem rsum_sub2 {α : Type} {f g : α → Rat} : ∀ (l : List α), rsum (l.map fun x => f x + g x) = rsum (l.map f) + rsum (l.map g)
  | [] => by show (0 : Rat) = 0 + 0; grind
  | x :: l => by
    simp only [List.map_cons, rsum_cons]
    rw [rsum_sub2 l]
    grind
theorem rsum_one {a : Str} {v : Rat} : ∀ {as : List Str}, as.Nodup → a ∈ as → rsum (as.map fun z => if a = z then v else 0) = v
  | z :: as, nd, m => by
    rw [List.nodup_cons] at nd
    simp only [List.map_cons, rsum_cons]
    by_cases q : a = z
    · subst q
      have : rsum (as.map fun z => if a = z then v else 0) = 0 := by
        have e : (as.map fun z => if a = z then v else (0 : Rat)) = as.map fun _ => 0 := List.map_congr_left fun y my => if_neg (fun e => nd.1 (by rw [e]; exact my))
        rw [e]
        clear e m nd
        induction as with
        | nil => rfl
        | cons y ys ih => simp only [List.map_cons, rsum_cons]; rw [ih]; grind
      rw [this, if_pos rfl]
      grind
    · have m' : a ∈ as := (List.mem_cons.mp m).elim (fun e => absurd e q) id
      rw [if_neg q, rsum_one nd.2 m']
      grind
theorem amts_total {as : List Str} (nd : as.Nodup) : ∀ (es : List (Str × Rat)), (∀ e ∈ es, e.1 ∈ as) → rsum (as.map fun z => rsum (amts es z)) = rsum (es.map (·.2))
  | [], _ => by
    show rsum (as.map fun _ => 0) = 0
    induction as with
    | nil => rfl
    | cons y ys ih => simp only [List.map_cons, rsum_cons]; rw [ih (List.nodup_cons.mp nd).2 (fun e m => nomatch m)]; grind
  | e :: es, h => by
    have e1 : (as.map fun z => rsum (amts (e :: es) z)) = as.map fun z => (if e.1 = z then e.2 else 0) + rsum (amts es z) := List.map_congr_left fun z _ => by
      rw [amts_cons, rsum_app]
      by_cases q : e.1 = z
      · rw [if_pos q, if_pos q]; simp [rsum_cons, rsum_nil, Rat.add_zero]
      · rw [if_neg q, if_neg q]; rfl
    rw [e1, rsum_sub2, rsum_one nd (h e (List.mem_cons_self ..)), amts_total nd es fun x m => h x (List.mem_cons_of_mem _ m), List.map_cons, rsum_cons]
/-- all that the law keeps of its lists -/
structure PsOk (as : List Str) (ps : List Post) : Prop where
  nd : as.Nodup
  kn : ∀ p ∈ ps, ∀ e ∈ p.2, e.1 ∈ as
  le : ∀ p ∈ ps, p.2.length ≤ 4
  dn : ∀ p ∈ ps, ∀ e ∈ p.2, Dn 5000 e.2
  d0 : ∀ p ∈ ps, 0 ≤ p.1
  ch : ps.Pairwise fun p q => p.1 ≤ q.1
  zero : ∀ p ∈ ps, rsum (p.2.map (·.2)) = 0
  n : ps.length ≤ 30
def newest (ps : List Post) : Int := match ps.getLast? with
  | some p => p.1
  | none => -1
theorem newest_snoc (ps : List Post) (p : Post) : newest (ps ++ [p]) = p.1 := by
  unfold newest
  rw [List.getLast?_append]
  rfl
theorem newest_ge {as : List Str} {ps : List Post} (h : PsOk as ps) : ∀ p ∈ ps, p.1 ≤ newest ps := fun p m => by
  obtain ⟨l, x, rfl⟩ : ∃ l x, ps = l ++ [x] := by
    have ne : ps ≠ [] := fun e => by rw [e] at m; cases m
    exact ⟨ps.dropLast, ps.getLast ne, (List.dropLast_concat_getLast ne).symm⟩
  rw [newest_snoc]
  rcases List.mem_append.mp m with m | m
  · exact (List.pairwise_append.mp h.ch).2.2 p m x (List.mem_singleton.mpr rfl)
  · rw [List.mem_singleton.mp m]; exact Int.le_refl _
theorem amts_none {as : List Str} {es : List (Str × Rat)} (h : ∀ e ∈ es, e.1 ∈ as) {z : Str} (hz : z ∉ as) : amts es z = [] := by
  have : (es.filter fun e => decide (e.1 = z)) = [] := List.filter_eq_nil_iff.mpr fun e m q => hz ((of_decide_eq_true q : e.1 = z) ▸ h e m)
  unfold amts
  rw [this]
  rfl
theorem stmtN_none {as : List Str} {ps : List Post} (h : ∀ p ∈ ps, ∀ e ∈ p.2, e.1 ∈ as) {z : Str} (hz : z ∉ as) : ∀ n, stmtN ps z n = []
  | 0 => rfl
  | n + 1 => by
    unfold stmtN
    cases q : ps[n]? with
    | none => exact stmtN_none h hz n
    | some p =>
      show stepS (stmtN ps z n) n p z = []
      unfold stepS
      rw [if_pos (amts_none (h p (List.mem_of_getElem? q)) hz), stmtN_none h hz n]
theorem amts_len {es : List (Str × Rat)} {z : Str} : (amts es z).length ≤ es.length := by
  unfold amts
  rw [List.length_map]
  exact List.length_filter_le ..
theorem amts_dn {es : List (Str × Rat)} {z : Str} {n m : Nat} (h : ∀ e ∈ es, Dn n e.2) (l : es.length ≤ m) : Dn (n * m) (rsum (amts es z)) := by
  refine (rsum_dn (n := n) fun r mr => ?_).mono (Nat.mul_le_mul_left n (Nat.le_trans amts_len l))
  obtain ⟨e, me, rfl⟩ := List.mem_map.mp mr
  exact h e (List.mem_filter.mp me).1
/-- of the rows: how many, their days, their balances -/
theorem stmtN_ok {as : List Str} {ps : List Post} (h : PsOk as ps) (z : Str) : ∀ n, n ≤ ps.length → (stmtN ps z n).length ≤ n ∧ (∀ r ∈ stmtN ps z n, 0 ≤ r.1 ∧ r.1 ≤ newest ps ∧ Dn 20000 r.2.2.1 ∧ Dn 600000 r.2.2.2) ∧ Dn (20000 * n) (lastR (stmtN ps z n))
  | 0, _ => ⟨Nat.le_refl _, (fun r m => nomatch m), Dn.zero _⟩
  | n + 1, hn => by
    obtain ⟨h1, h2, h3⟩ := stmtN_ok h z n (by omega)
    have hx : ps[n]? = some ps[n] := List.getElem?_eq_getElem (by omega)
    have mp := List.mem_of_getElem? hx
    have e : stmtN ps z (n + 1) = stepS (stmtN ps z n) (n : Int) ps[n] z := by
      show (match ps[n]? with | some p => stepS (stmtN ps z n) (n : Int) p z | none => stmtN ps z n) = _
      rw [hx]
    have da : Dn 20000 (rsum (amts ps[n].2 z)) := amts_dn (h.dn _ mp) (h.le _ mp)
    have dl : Dn (20000 * (n + 1)) (lastR (stmtN ps z n) + rsum (amts ps[n].2 z)) := by rw [Nat.mul_succ]; exact h3.add da
    rw [e]
    refine ⟨?_, fun r m => ?_, by rw [lastR_step]; exact dl⟩
    · unfold stepS
      split
      · omega
      · rw [List.length_append, List.length_singleton]; omega
    · unfold stepS at m
      split at m
      · exact h2 r m
      · rcases List.mem_append.mp m with m | m
        · exact h2 r m
        · rw [List.mem_singleton.mp m]
          exact ⟨h.d0 _ mp, newest_ge h _ mp, da, dl.mono (by have := h.n; omega)⟩
theorem zero_sum {as : List Str} : ∀ {ps : List Post}, PsOk as ps → rsum (as.map fun z => lastR (stmt ps z)) = 0 := fun {ps} => by
  refine snoc_ind (P := fun ps => PsOk as ps → rsum (as.map fun z => lastR (stmt ps z)) = 0) (fun h => ?_) (fun l p ih h => ?_) ps
  · show rsum (as.map fun _ => 0) = 0
    clear h
    induction as with
    | nil => rfl
    | cons y ys ih => simp only [List.map_cons, rsum_cons]; rw [ih]; grind
  · have h' : PsOk as l := ⟨h.nd, fun q m => h.kn q (List.mem_append_left _ m), fun q m => h.le q (List.mem_append_left _ m), fun q m => h.dn q (List.mem_append_left _ m), fun q m => h.d0 q (List.mem_append_left _ m), (List.pairwise_append.mp h.ch).1, fun q m => h.zero q (List.mem_append_left _ m), by have := h.n; rw [List.length_append] at this; omega⟩
    have mp : p ∈ l ++ [p] := List.mem_append_right _ (List.mem_singleton.mpr rfl)
    have e : (as.map fun z => lastR (stmt (l ++ [p]) z)) = as.map fun z => lastR (stmt l z) + rsum (amts p.2 z) := List.map_congr_left fun z _ => by rw [stmt_snoc, lastR_step]
    rw [e, rsum_sub2, ih h', amts_total h.nd _ (h.kn p mp), h.zero p mp]
    grind
/-- the law's own walk to a day -/
def balOn (rows : List Row) (day : Int) : Rat := rows.foldl (fun b r => if r.1 ≤ day then r.2.2.2 else b) 0
theorem balOn_snoc (rows : List Row) (r : Row) (day : Int) : balOn (rows ++ [r]) day = if r.1 ≤ day then r.2.2.2 else balOn rows day := by
  unfold balOn
  rw [List.foldl_append]
  rfl
theorem onB_balOn (rows : List (V × Row)) (day : Int) : onB rows day = balOn (rows.map (·.2)) day := by
  refine snoc_ind (P := fun rows => onB rows day = balOn (rows.map (·.2)) day) rfl (fun l p ih => ?_) rows
  rw [List.map_append, List.map_singleton, balOn_snoc, ← ih]
  unfold onB
  rw [List.map_append, List.filter_append, List.map_append]
  by_cases q : p.2.1 ≤ day
  · rw [if_pos q]
    simp [q]
  · rw [if_neg q]
    simp [q]
theorem balOn_all {rows : List Row} {day : Int} : (∀ r ∈ rows, r.1 ≤ day) → balOn rows day = lastR rows := by
  refine snoc_ind (P := fun rows => (∀ r ∈ rows, r.1 ≤ day) → balOn rows day = lastR rows) (fun _ => rfl) (fun l r ih h => ?_) rows
  rw [balOn_snoc, if_pos (h r (List.mem_append_right _ (List.mem_singleton.mpr rfl))), lastR_snoc]
end
end Cs
set_option maxHeartbeats 4000000
namespace Cs
open PySem PySem.Spec PyProof.Rows L2
local macro_rules | `(tactic| walk_at "rd") => `(tactic| (first
  | (refine ⟨_, rfl, ?_⟩)
  | (refine ⟨_, _, rfl, rfl, ?_⟩)
  | (refine .inl ⟨_, rfl, ?_⟩)
  | (refine .inr ⟨_, rfl, ?_⟩)
  | (refine ⟨_, _, _, _, rfl, rfl, SqL.of upd_same, rfl, ?_⟩)
  | (refine ⟨_, _, _, _, rfl, rfl, upd_same, rfl, ?_⟩)
  | (refine ⟨_, ?xs, _, ?v, rfl, rfl, ?h, ?x, ?_⟩; (case h => first | exact SqL.of (by assumption) | exact SqT.of (by assumption) | assumption); (case x => first | rfl | exact atI_nat (j := 0) rfl | exact atI_nat (j := 1) rfl))))
local macro_rules | `(tactic| walk_at "isi") => `(tactic| (first
  | (refine ⟨_, _, _, _, _, rfl, .ty _, .base (.int _), kit_ty kit_it, ?_⟩)
  | (refine ⟨_, _, _, _, _, rfl, .ty _, .base (.int _), kit_ty kit_ib, ?_⟩)
  | (refine ⟨_, _, _, _, _, rfl, .ty _, .base (.int _), kit_ty kit_ii, ?_⟩)
  | (refine ⟨_, _, _, _, _, rfl, .ty _, .base (.bl _), kit_ty kit_bt, ?_⟩)
  | (refine ⟨_, _, _, _, _, rfl, .ty _, .base (.bl _), kit_ty kit_bb, ?_⟩)
  | (refine ⟨_, _, _, _, _, rfl, .ty _, .base (.bl _), kit_ty kit_bi, ?_⟩)))
local macro_rules | `(tactic| walk_at "ev") => `(tactic| (first
  | exact ev_var rfl
  | exact ev_int
  | exact ev_str
  | exact ev_bl
  | exact ev_non
  | (refine ev_add ?_ ?_ <;> walk_at "ev")
  | (refine ev_sub ?_ ?_ <;> walk_at "ev")
  | (refine ev_mul ?_ ?_ ?_ <;> (try walk_at "ev"))
  | (refine ev_neg ?_ <;> walk_at "ev")
  | (refine ev_num ?_ <;> walk_at "ev")
  | (refine ev_den ?_ <;> walk_at "ev")
  | (refine ev_cmp ?_ ?_ <;> walk_at "ev")
  | (refine ev_eqI ?_ ?_ <;> walk_at "ev")
  | (refine ev_eqS ?_ ?_ <;> walk_at "ev")
  | (refine ev_neI ?_ ?_ <;> walk_at "ev")
  | (refine ev_neS ?_ ?_ <;> walk_at "ev")
  | (refine ev_inS ?_ ?_ <;> walk_at "ev")
  | (refine ev_niS ?_ ?_ <;> walk_at "ev")
  | (refine ev_len ?_ <;> walk_at "ev")
  | (refine ev_list ?_ <;> walk_at "ev")
  | (refine ev_listRev ?_ <;> walk_at "ev")
  | (refine ev_int1 ?_ <;> walk_at "ev")))
local macro_rules | `(tactic| walk_at "ea") => `(tactic| (first
  | exact ea_nil
  | (refine ea_cons ?_ ?_ <;> (first | walk_at "ev" | walk_at "ea" | skip))))
local macro_rules | `(tactic| walk_at "sb") => `(tactic| (first | exact True.intro | (refine And.intro rfl ?_; walk_at "sb")))
section
variable {P : Program} {w : World} {K : PySem.W.Frag} {mg : Str → Option Value} {base : Heap}
/-! ### postings, the entries a list that the caller changes later -/
abbrev tEn (K : PySem.W.Frag) : Ty (Str × Rat) := tPr K tSt (tFr K)
abbrev PsgX := BkX × Int × Addr × List (V × (Str × Rat))
abbrev PsgX.es (x : PsgX) : List (Str × Rat) := x.2.2.2.map (·.2)
abbrev psgC (K : PySem.W.Frag) (CB : Addr) (x : PsgX) : List RS := [bkR K CB x.1, cell x.2.2.1 (cTg (tPr K tSt (tFr K)) x.2.2.2)]
abbrev psgA (x : PsgX) : List SF := [tRf.is x.1.1, tInt.is x.2.1, tRf.is x.2.2.1]
def psgTo (K : PySem.W.Frag) (CB : Addr) (x : PsgX) (y : Int) (C' : List RS) : Prop := y = (x.1.2.2.2.posts.length : Int) ∧ ∃ v accs, C' = [rBk K CB x.1.1 x.1.2.1 x.1.2.2.1 ⟨accs, x.1.2.2.2.posts ++ [(v, (x.2.1, x.es))]⟩, cell x.2.2.1 (cTg (tPr K tSt (tFr K)) x.2.2.2)] ∧ accs.map Acc.a = x.1.2.2.2.accs.map Acc.a ∧
  accs.map bare = (sumsOf x.es).foldl (postB x.2.1 (x.1.2.2.2.posts.length : Int)) (x.1.2.2.2.accs.map bare)
abbrev spPstG (K : PySem.W.Frag) (CB : Addr) : Sp := spS (psgC K CB) psgA tInt (fun x => PstOk (x.1, x.2.1, x.es)) (psgTo K CB)
theorem ok_postG {f CB zZ : Addr} {fd : FuncData} {k : Nat} (F : Fun K "post" "Books.post" sBPst f fd) (BC : BkC K CB) (c_check : CalM P w K mg base k CB "_check" ["self", "name"] (spChk K CB)) (c_balance : CalM P w K mg base k CB "balance" ["self", "name"] (spBal K CB)) (c_latest : CalP P w K mg base k CB "latest_day" (spLat K CB)) (c_plus : Cal P w K mg base (k + 1) "plus" ["a", "b"] (spPlus K)) (c_total : Cal P w K mg base (k + 1) "total" ["values"] (spTotal K))
    (m_ZERO : mg "ZERO" = some (.ref zZ)) (hZ : ∀ H, SqT K H zZ [.int 0, .int 1]) (z_list : mg "list" = none) (z_len : mg "len" = none) : FnOk P w K mg base CX0 (k + 2) f fd ["self", "day", "entries"] (spPstG K CB) := by
  have c_check := c_check.mono (Nat.le_succ k)
  have c_balance := c_balance.mono (Nat.le_succ k)
  refine ok_S F scBPst (fun _ => rfl) fun cdv A outer s H0 S x Q E hr hp al0 hMS out => ?_
  have hu := hu_of hr
  refine ⟨_, (pss_cons (ps_if (PW.pt (pw_or (pt_cmpR op_lt (pv 1) pe_int (nomark _)) (pw_or1 (pt_cmpR op_lt (pv 1) (pe_calP (pv 0) c_latest BC.cl hr) (nomark _))))) (pss_one ps_never) pss_nil)
      (pss_cons (ps_set (i := 3) scBPst.nd rfl (Or.inl rfl) pe_dnewK)
      (pss_cons (ps_for PassesOwn.never rfl (pi_list (pv 2)) (pg_tup rfl (pgs_cons (pg_name (i := 4) scBPst.nd rfl (Or.inl rfl)) (pgs_cons (pg_name (i := 5) scBPst.nd rfl (Or.inl rfl)) pgs_nil))) (pss_cons (ps_expr (pe_calM (pv 0) c_check BC.cl hr (pa_cons (pv 4) pa_nil)))
      (pss_one (ps_dput hu (pv 3) (pv 4) (pe_cal c_plus hr (by rfl) (pa_cons (pe_dget2 hu (pv 3) (pv 4) (pe_glob (v := .ref zZ) (by rfl) m_ZERO rfl) ⟨rfl, rfl, rfl, rfl⟩) (pa_cons (pv 5) pa_nil))) rfl))))
      (pss_cons (ps_set (i := 6) scBPst.nd rfl (Or.inl rfl) (pe_cal c_total hr (by rfl) (pa_cons (pe_listVals rfl (by rfl) z_list (pv 3)) pa_nil)))
      (pss_cons (ps_if (pt_cmpR (op_neD hr.units) (pv 6) (pe_glob (v := .ref zZ) (by rfl) m_ZERO rfl) (nomark _)) (pss_one ps_never) pss_nil)
      (pss_cons (ps_set (i := 7) scBPst.nd rfl (Or.inl rfl) (pe_callB call_len_seq (by rfl) z_len PySem.boot_len (pa_cons (pe_fld (pv 0) rfl) pa_nil)))
      (pss_cons (ps_expr (pe_bm PySem.F.plainAttrs_list PySem.F.slot_list_append PySem.F.type_list_append mt_append (pe_fld (pv 0) rfl) (pa_cons (pe_tup (pa_cons (pv 1) (pa_cons (pe_lc (own := [("name", 4), ("amount", 5)]) (g := gTup K 2 (gCons (gName 4) (gCons (gName 5) gNil))) (tt := tYes) rfl scBPst.nd (pi_list (pv 2)) (blkOk_by (own := [("name", 4), ("amount", 5)]) (N := ["self", "day", "entries", "sums", "name", "amount", "rest", "number"]) (sc := defScope sBPst) (by decide +kernel)) (fun _ _ _ _ _ => (pg_tup rfl (pgs_cons (pg_name (i := 4) scBPst.nd rfl (Or.inl rfl)) (pgs_cons (pg_name (i := 5) scBPst.nd rfl (Or.inl rfl)) pgs_nil)))) (fun _ _ _ _ _ => pts_nil) (fun _ _ _ _ _ => (pe_tup (pa_cons (pv 4) (pa_cons (pv 5) pa_nil))))) pa_nil))) pa_nil)))
      (pss_cons (ps_lock (ps_for PassesOwn.never rfl (pi_items (pv 3)) (pg_tup rfl (pgs_cons (pg_name (i := 4) scBPst.nd rfl (Or.inl rfl)) (pgs_cons (pg_name (i := 5) scBPst.nd rfl (Or.inl rfl)) pgs_nil))) (pss_one (ps_expr (pe_bm PySem.F.plainAttrs_list PySem.F.slot_list_append PySem.F.type_list_append mt_append (pe_dget hu (pe_fld (pv 0) rfl) (pv 4) (fun _ _ => rfl)) (pa_cons (pe_tup (pa_cons (pv 1) (pa_cons (pv 7) (pa_cons (pv 5) (pa_cons (pe_cal c_plus hr (by rfl) (pa_cons (pe_calM (pv 0) c_balance BC.cl hr (pa_cons (pv 4) pa_nil)) (pa_cons (pv 5) pa_nil))) pa_nil))))) pa_nil))))))
      (pss_one (ps_ret (pv 7))))))))))), ?_⟩
  obtain ⟨⟨b, pd, sd, s⟩, day, ep, vxs⟩ := x
  generalize hes : vxs.map (·.2) = es at hp
  have hp : PstOk ((b, pd, sd, s), day, es) := hes ▸ hp
  obtain ⟨nd, d0, d1, kn, le, sz, zero, lb, lp, lr⟩ := hp
  refine go_ifr (et_or (et_of (ev_cmp (ev_var rfl) ev_int)) (fun _ => et_of (ev_cmp (ev_var rfl) (evx_prop (r := rBk K CB b pd sd s) (z := (b, pd, sd, s)) (fun F H ⟨⟨dx, h1⟩, _⟩ => ⟨dx, _, h1⟩) (List.mem_cons_self ..) (ev_var rfl) rfl trivial).ev))) (fun h => ?_) (fun _ => ?_)
  · have d0 : 0 ≤ day := d0
    have d1 : lastDay s.posts ≤ day := d1
    rw [Bool.or_eq_true, decide_eq_true_eq, decide_eq_true_eq] at h
    have h : day < 0 ∨ day < lastDay s.posts := h
    omega
  refine go_newM (tFr K) fun p np => ?_
  have le : es.length ≤ 4 := le
  have sz : ∀ e ∈ es, Sz 40 e.2 := sz
  have kn : ∀ e ∈ es, e.1 ∈ s.accs.map Acc.n := kn
  refine go_seq (go_forR (xs := vxs.map (·.2)) (ivR_list (r := cell ep (cTg (tPr K tSt (tFr K)) vxs)) (vxs := vxs) in2 tg_says (ev_var rfl)) tgt_pair (fun k (ms : List (Tag Rat)) => (p :: S, [cell p (cMap (tFr K) ms), rBk K CB b pd sd s, cell ep (cTg (tPr K tSt (tFr K)) vxs)], [some (tRf.is b), some (tInt.is day), some (tRf.is ep), some (tRf.is p), none, none, none, none])) (fun _ _ => in2)
    (fun k ms => ms.map untag = sumsOf (es.take k) ∧ (∀ m ∈ ms, Sz (41 * k + 1) m.2.2) ∧ ms.length ≤ k ∧ ∀ m ∈ ms, m.1 ∈ s.accs.map Acc.n) [] ⟨rfl, (fun m mm => nomatch mm), Nat.le_refl _, (fun m mm => nomatch mm)⟩ rfl (fun σ H o => o.sb (by walk_at "sb")) (fun k ms x hx hk => ?_) (fun ms hk σ H o => ?_))
  · rw [hes] at hx
    obtain ⟨h1, h2, h3, h4⟩ := hk
    have hkl : k < es.length := (List.getElem?_eq_some_iff.mp hx).1
    have mx : x ∈ es := List.mem_of_getElem? hx
    refine go_dropx (evx_meth (r := rBk K CB b pd sd s) (z := ((b, pd, sd, s), x.1)) (bk_ob "_check" rfl) (List.mem_cons_of_mem _ (List.mem_cons_self ..)) (ev_var rfl) (ea_cons (ev_var rfl) ea_nil) rfl (kn x mx) (hC := su1)) fun _ _ => ?_
    have old : Sz (41 * k + 1) (((tagOf ms x.1).map fun m => m.2.2).getD 0) := by
      cases q : tagOf ms x.1 with
      | none => exact sz_zero (by omega)
      | some m => exact h2 m (List.mem_of_find?_eq_some q)
    refine go_putM (t := tFr K) (z := x.1) (P := fun y => y = ((tagOf ms x.1).map fun m => m.2.2).getD 0 + x.2) rfl (List.Perm.refl _) (ev_var rfl) (Ev.xe (ev_call (z := (((tagOf ms x.1).map fun m => m.2.2).getD 0, x.2)) (ea_cons (ev_getM (List.mem_cons_self ..) (ev_var rfl) (ev_var rfl) (ev_k (t := tFr K) (x := 0) fun H => ⟨zZ, rfl, hZ H⟩)) (ea_cons (ev_var rfl) ea_nil)) ⟨old.mono (by omega), (sz x mx).mono (by decide)⟩)) (by rw [sizeLine_eq]; omega) fun v y hy σ H o => ⟨putM ms x.1 v y, ⟨?_, ?_, ?_, ?_⟩, o.sb (by walk_at "sb")⟩
    · rw [hy, put_untag, h1, take_snoc hx]
      unfold sumsOf
      rw [List.foldl_append]
      rfl
    · intro m mm
      have hy2 : Sz (41 * (k + 1) + 1) y := by
        rw [hy]
        exact (sz_addN old (sz x mx)).mono (by omega)
      unfold putM at mm
      split at mm
      · obtain ⟨m0, mm0, rfl⟩ := List.mem_map.mp mm
        by_cases q : m0.1 = x.1
        · rw [if_pos q]; exact hy2
        · rw [if_neg q]; exact (h2 m0 mm0).mono (by omega)
      · rcases List.mem_append.mp mm with mm | mm
        · exact (h2 m mm).mono (by omega)
        · rw [List.mem_singleton.mp mm]; exact hy2
    · unfold putM
      split
      · rw [List.length_map]; omega
      · rw [List.length_append, List.length_singleton]; omega
    · intro m mm
      unfold putM at mm
      split at mm
      · obtain ⟨m0, mm0, rfl⟩ := List.mem_map.mp mm
        by_cases q : m0.1 = x.1
        · rw [if_pos q]; exact h4 m0 mm0
        · rw [if_neg q]; exact h4 m0 mm0
      · rcases List.mem_append.mp mm with mm | mm
        · exact h4 m mm
        · rw [List.mem_singleton.mp mm]; exact kn x mx
  · obtain ⟨h1, h2, h3, h4⟩ := hk
    rw [hes, List.take_length] at h1
    rw [hes] at h2 h3
    have zero : rsum ((sumsOf es).map (·.2)) = 0 := zero
    have e0 : (ms.map fun m => m.2.2) = (sumsOf es).map (·.2) := by rw [← h1, List.map_map]; rfl
    dsimp only
    refine go_at o ?_
    refine go_set (x := rsum ((sumsOf es).map (·.2))) (ev_is (ev_call (z := (ms.map fun m => m.2.2)) (ea_cons (ev_valsM (K := K) (List.mem_cons_self ..) (ev_var rfl)) ea_nil) ⟨fun r mr => ?_, ?_⟩) (by rw [e0])) ?_
    · obtain ⟨m, mm, rfl⟩ := List.mem_map.mp mr
      exact (h2 m mm).mono (by omega)
    · rw [List.length_map]; omega
    refine go_ifr (et_of (ev_neD eqFr (ev_var rfl) (ev_k (t := tFr K) (x := 0) fun H => ⟨zZ, rfl, hZ H⟩) (lay_fr _) (lay_fr _) (by simp [eqFr]))) (fun h => ?_) (fun _ => ?_)
    · rw [zero] at h
      simp at h
    have pe : ∀ W : Wd, rBk K CB b pd sd s ∈ W.L → W.G[0]? = some (some (tRf.is b)) → Ev W (tFld K (tVar 0) "posted") tRf pd := fun W hr h0 => ev_fldR hr bk_posted (ev_var h0) BC.cl BC.n0
    refine go_set (x := (s.posts.length : Int)) (ev_is (ev_lenR (r := rBk K CB b pd sd s) (List.mem_cons_of_mem _ (List.mem_cons_self ..)) bk_posts.l (pe _ (List.mem_cons_of_mem _ (List.mem_cons_self ..)) rfl)) (by rw [List.length_map])) ?_
    have lp : s.posts.length ≤ 1000 := lp
    have le' : es.length < sizeLine := by rw [sizeLine_eq]; omega
    refine go_seq (go_appR (t := tPost K) (x := (day, es)) (r := rBk K CB b pd sd s) (r' := fun v => rBk K CB b pd sd ⟨s.accs, s.posts ++ [(v, (day, es))]⟩) (q := pd) (R := [cell p (cMap (tFr K) ms), cell ep (cTg (tPr K tSt (tFr K)) vxs)]) (List.Perm.swap ..) (pe _ (List.mem_cons_of_mem _ (List.mem_cons_self ..)) rfl) bk_posts
      (ev_pr (ev_var rfl) (ev_is (ev_lcmR (K := K) (u := tPr K tSt (tFr K)) (f := fun x : Str × Rat => (x.1, x.2)) (r := cell ep (cTg (tPr K tSt (tFr K)) vxs)) in2 (ivR_list in2 tg_says (ev_var rfl)) tgt_pair (by simp) (by rw [hes]; exact le') (fun _ _ _ x _ xm => ev_pr (ev_var rfl) (ev_var rfl))) ((List.map_id' _).trans hes))) (by rw [sizeLine_eq]; omega) (fun v => rfl) (by simp [rBk]) (fun v F H nod hp hv => rbk_post nod hp hv) rfl (fun v σ H o => ?_))
    refine go_at o ?_
    have nd : (s.accs.map Acc.n).Nodup := nd
    have lb : ∀ c ∈ s.accs, Sz 3000 (lastB c.rows) := lb
    have lr : ∀ c ∈ s.accs, c.rows.length ≤ 1000 := lr
    refine go_seq (go_itemsM (p := p) (ms := ms) (R := [rBk K CB b pd sd ⟨s.accs, s.posts ++ [(v, (day, es))]⟩, cell ep (cTg (tPr K tSt (tFr K)) vxs)]) rfl (List.Perm.swap ..) (fun k (accs : List Acc) => ([rBk K CB b pd sd ⟨accs, s.posts ++ [(v, (day, es))]⟩, cell ep (cTg (tPr K tSt (tFr K)) vxs)], [some (tRf.is b), some (tInt.is day), some (tRf.is ep), some (tRf.is p), none, none, none, some (tInt.is (s.posts.length : Int))]))
      (fun k accs => accs.map Acc.a = s.accs.map Acc.a ∧ accs.map bare = ((ms.map untag).take k).foldl (postB day (s.posts.length : Int)) (s.accs.map bare) ∧ accs.map Acc.n = s.accs.map Acc.n ∧ (∀ c ∈ accs, Sz (3000 + 200 * k) (lastB c.rows) ∧ c.rows.length ≤ 1000 + k)) s.accs ⟨rfl, rfl, rfl, fun c m => ⟨lb c m, lr c m⟩⟩ (fun od σ H o => o.sb (by walk_at "sb")) (fun od k accs m B V' hm hk => ?_) (fun accs hk σ H o => ?_))
    · obtain ⟨q1, q2, q3, q4⟩ := hk
      have mm := List.mem_of_getElem? hm
      have hkl : k < ms.length := (List.getElem?_eq_some_iff.mp hm).1
      have hz := h4 m mm
      have ha := h2 m mm
      obtain ⟨z, tg, a⟩ := m
      rw [← q3] at hz
      obtain ⟨c, mc, e⟩ := List.mem_map.mp hz
      obtain rfl : c.n = z := e
      have nd' : (accs.map Acc.n).Nodup := by rw [q3]; exact nd
      have ha : Sz (41 * es.length + 1) a := ha
      refine go_appR (t := tRow K) (x := (day, (s.posts.length : Int), a, lastB c.rows + a)) (r := rBk K CB b pd sd ⟨accs, s.posts ++ [(v, (day, es))]⟩) (r' := fun w => rBk K CB b pd sd ⟨addRow accs c.n (w, (day, (s.posts.length : Int), a, lastB c.rows + a)), s.posts ++ [(v, (day, es))]⟩) (q := c.a) (R := [cell p (cFz (tFr K) od ms), cell ep (cTg (tPr K tSt (tFr K)) vxs)]) (List.Perm.swap ..) (rowsEv (s := ⟨accs, s.posts ++ [(v, (day, es))]⟩) BC nd' mc _ (List.mem_cons_of_mem _ (List.mem_cons_self ..)) rfl rfl) (bk_rows mc) ?_ ?_ (fun w => ?_) ?_ (fun w F H nod hp hv => rbk_row nd' mc nod hp hv) rfl (fun w σ H o => ?_)
      · refine ev_tup (K := K) (α := Row) (ea_cons (ev_var rfl) (ea_cons (ev_var rfl) (ea_cons (ev_var rfl) (ea_cons (ev_call (z := (lastB c.rows, a)) (ea_cons (evx_meth (r := rBk K CB b pd sd ⟨accs, s.posts ++ [(v, (day, es))]⟩) (z := (((b, pd, sd, ⟨accs, s.posts ++ [(v, (day, es))]⟩), c.n), c)) (bk_ob "balance" rfl) (List.mem_cons_of_mem _ (List.mem_cons_self ..)) (ev_var rfl) (ea_cons (ev_var rfl) ea_nil) rfl ⟨nd', mc, rfl⟩ (hC := su1)).ev (ea_cons (ev_var rfl) ea_nil)) ⟨(q4 c mc).1.mono (by omega), ha.mono (by omega)⟩) ea_nil)))) rfl (by show 4 ≤ sizeLine; decide)
      · have := (q4 c mc).2
        rw [sizeLine_eq]; omega
      · show b :: pd :: sd :: (addRow accs c.n _).map Acc.a = b :: pd :: sd :: accs.map Acc.a
        rw [addRow_a]
      · show c.a ∈ b :: pd :: sd :: accs.map Acc.a
        exact List.mem_cons_of_mem _ (List.mem_cons_of_mem _ (List.mem_cons_of_mem _ (List.mem_map.mpr ⟨c, mc, rfl⟩)))
      · have hb : (addRow accs c.n (w, (day, (s.posts.length : Int), a, lastB c.rows + a))).map bare = postB day (s.posts.length : Int) (accs.map bare) (c.n, a) := addRow_bare nd' mc
        refine ⟨addRow accs c.n (w, (day, (s.posts.length : Int), a, lastB c.rows + a)), ⟨by rw [addRow_a, q1], ?_, ?_, fun c' m' => ?_⟩, (o.perm (List.Perm.swap ..)).sb (by walk_at "sb")⟩
        · have hu : (ms.map untag)[k]? = some (c.n, a) := by rw [List.getElem?_map, hm]; rfl
          rw [hb, q2, take_snoc hu, List.foldl_append]
          rfl
        · rw [← q3]
          unfold addRow
          rw [List.map_map]
          refine List.map_congr_left fun d _ => ?_
          by_cases q : d.n = c.n <;> simp [q]
        · obtain ⟨c0, m0, rfl⟩ := List.mem_map.mp (show c' ∈ accs.map _ from m')
          by_cases q : c0.n = c.n
          · obtain rfl := acc_inj nd' m0 mc q
            rw [if_pos rfl]
            refine ⟨?_, by show (c0.rows ++ [_]).length ≤ _; rw [List.length_append, List.length_singleton]; have := (q4 c0 m0).2; omega⟩
            have : lastB (c0.rows ++ [(w, (day, (s.posts.length : Int), a, lastB c0.rows + a))]) = lastB c0.rows + a := by
              show lastB (c0.rows ++ [_]) = _
              conv => lhs; unfold lastB
              rw [List.getLast?_append]
              rfl
            rw [this]
            exact (sz_addN (q4 c0 m0).1 ha).mono (by omega)
          · rw [if_neg q]
            exact ⟨(q4 c0 m0).1.mono (by omega), by have := (q4 c0 m0).2; omega⟩
    · obtain ⟨q1, q2, q3, q4⟩ := hk
      have e1 : (ms.map untag).take ms.length = sumsOf es := by rw [← h1, ← List.length_map (f := untag), List.take_length]
      rw [e1] at q2
      dsimp only
      show tRet (tVar 7) _ σ H
      refine ev_var (t := tInt) (x := (s.posts.length : Int)) (n := 7) rfl σ H o _ fun w H' g r => ?_
      have fe : ∀ a, a ∈ fps [rBk K CB b pd sd ⟨accs, s.posts ++ [(v, (day, es))]⟩, cell ep (cTg (tPr K tSt (tFr K)) vxs)] → a ∈ S := fun a ma => hMS a (by
        have ma : a ∈ b :: pd :: sd :: (accs.map Acc.a ++ [ep]) := ma
        rw [q1] at ma
        exact ma)
      have o' := Ok.drop (N := [p]) g.ok fe hMS
      exact ends_S (y := (s.posts.length : Int)) (N := []) (C' := [rBk K CB b pd sd ⟨accs, s.posts ++ [(v, (day, es))]⟩, cell ep (cTg (tPr K tSt (tFr K)) vxs)]) o' out r ⟨rfl, v, accs, by subst hes; rfl, q1, by subst hes; exact q2⟩ rfl (List.Perm.refl _) rfl al0 (fun a m => nomatch m) hMS
end
end Cs
set_option maxHeartbeats 4000000
namespace Cs
open PySem PySem.Spec PyProof.Rows L2
local macro_rules | `(tactic| walk_at "rd") => `(tactic| (first
  | (refine ⟨_, rfl, ?_⟩)
  | (refine ⟨_, _, rfl, rfl, ?_⟩)
  | (refine .inl ⟨_, rfl, ?_⟩)
  | (refine .inr ⟨_, rfl, ?_⟩)
  | (refine ⟨_, _, _, _, rfl, rfl, SqL.of upd_same, rfl, ?_⟩)
  | (refine ⟨_, _, _, _, rfl, rfl, upd_same, rfl, ?_⟩)
  | (refine ⟨_, ?xs, _, ?v, rfl, rfl, ?h, ?x, ?_⟩; (case h => first | exact SqL.of (by assumption) | exact SqT.of (by assumption) | assumption); (case x => first | rfl | exact atI_nat (j := 0) rfl | exact atI_nat (j := 1) rfl))))
local macro_rules | `(tactic| walk_at "isi") => `(tactic| (first
  | (refine ⟨_, _, _, _, _, rfl, .ty _, .base (.int _), kit_ty kit_it, ?_⟩)
  | (refine ⟨_, _, _, _, _, rfl, .ty _, .base (.int _), kit_ty kit_ib, ?_⟩)
  | (refine ⟨_, _, _, _, _, rfl, .ty _, .base (.int _), kit_ty kit_ii, ?_⟩)
  | (refine ⟨_, _, _, _, _, rfl, .ty _, .base (.bl _), kit_ty kit_bt, ?_⟩)
  | (refine ⟨_, _, _, _, _, rfl, .ty _, .base (.bl _), kit_ty kit_bb, ?_⟩)
  | (refine ⟨_, _, _, _, _, rfl, .ty _, .base (.bl _), kit_ty kit_bi, ?_⟩)))
local macro_rules | `(tactic| walk_at "ev") => `(tactic| (first
  | exact ev_var rfl
  | exact ev_int
  | exact ev_str
  | exact ev_bl
  | exact ev_non
  | (refine ev_add ?_ ?_ <;> walk_at "ev")
  | (refine ev_sub ?_ ?_ <;> walk_at "ev")
  | (refine ev_mul ?_ ?_ ?_ <;> (try walk_at "ev"))
  | (refine ev_neg ?_ <;> walk_at "ev")
  | (refine ev_num ?_ <;> walk_at "ev")
  | (refine ev_den ?_ <;> walk_at "ev")
  | (refine ev_cmp ?_ ?_ <;> walk_at "ev")
  | (refine ev_eqI ?_ ?_ <;> walk_at "ev")
  | (refine ev_eqS ?_ ?_ <;> walk_at "ev")
  | (refine ev_neI ?_ ?_ <;> walk_at "ev")
  | (refine ev_neS ?_ ?_ <;> walk_at "ev")
  | (refine ev_inS ?_ ?_ <;> walk_at "ev")
  | (refine ev_niS ?_ ?_ <;> walk_at "ev")
  | (refine ev_len ?_ <;> walk_at "ev")
  | (refine ev_list ?_ <;> walk_at "ev")
  | (refine ev_listRev ?_ <;> walk_at "ev")
  | (refine ev_int1 ?_ <;> walk_at "ev")))
local macro_rules | `(tactic| walk_at "ea") => `(tactic| (first
  | exact ea_nil
  | (refine ea_cons ?_ ?_ <;> (first | walk_at "ev" | walk_at "ea" | skip))))
local macro_rules | `(tactic| walk_at "sb") => `(tactic| (first | exact True.intro | (refine And.intro rfl ?_; walk_at "sb")))
section
variable {P : Program} {w : World} {K : PySem.W.Frag} {mg : Str → Option Value} {base : Heap}
/-! ### errors of books -/
abbrev sUInit : Stmt := inClass (topS 3) 0
theorem scUInit : FnScope ["self", "name"] ["self", "name"] (defScope sUInit) := ⟨rfl, rfl, rfl, by decide +kernel, rfl, by decide +kernel, by decide +kernel⟩
theorem ok_UInit {f C : Addr} {fd : FuncData} {k : Nat} (F : Fun K "__init__" "UnknownAccount.__init__" sUInit f fd) : FnOk P w K mg base CX0 (k + 1) f fd ["self", "name"] (spXi K C "name") := by
  refine F.ok scUInit (fun vs H Q E h => ?_) (fun cdv A outer s H vs Q E hr h => ?_)
  · obtain ⟨a, z, rfl, _⟩ := h
    rfl
  · obtain ⟨a, z, rfl, T, hno, ha, out⟩ := h
    refine ⟨_, pss_one (ps_ost (pv 0) (pv 1)), ?_⟩
    exact ⟨_, rfl, _, rfl, a, C, rfl, T, hno, .inl ⟨ha, fun dx n ne => out dx n ne⟩⟩
abbrev sTInit : Stmt := inClass (topS 4) 0
theorem scTInit : FnScope ["self", "name"] ["self", "name"] (defScope sTInit) := ⟨rfl, rfl, rfl, by decide +kernel, rfl, by decide +kernel, by decide +kernel⟩
theorem ok_TInit {f C : Addr} {fd : FuncData} {k : Nat} (F : Fun K "__init__" "AccountTaken.__init__" sTInit f fd) : FnOk P w K mg base CX0 (k + 1) f fd ["self", "name"] (spXi K C "name") := by
  refine F.ok scTInit (fun vs H Q E h => ?_) (fun cdv A outer s H vs Q E hr h => ?_)
  · obtain ⟨a, z, rfl, _⟩ := h
    rfl
  · obtain ⟨a, z, rfl, T, hno, ha, out⟩ := h
    refine ⟨_, pss_one (ps_ost (pv 0) (pv 1)), ?_⟩
    exact ⟨_, rfl, _, rfl, a, C, rfl, T, hno, .inl ⟨ha, fun dx n ne => out dx n ne⟩⟩
abbrev sRInit : Stmt := inClass (topS 5) 0
theorem scRInit : FnScope ["self", "rest"] ["self", "rest"] (defScope sRInit) := ⟨rfl, rfl, rfl, by decide +kernel, rfl, by decide +kernel, by decide +kernel⟩
theorem ok_RInit {f C : Addr} {fd : FuncData} {k : Nat} (F : Fun K "__init__" "Unbalanced.__init__" sRInit f fd) : FnOk P w K mg base CX0 (k + 1) f fd ["self", "rest"] (spXi K C "rest") := by
  refine F.ok scRInit (fun vs H Q E h => ?_) (fun cdv A outer s H vs Q E hr h => ?_)
  · obtain ⟨a, z, rfl, _⟩ := h
    rfl
  · obtain ⟨a, z, rfl, T, hno, ha, out⟩ := h
    refine ⟨_, pss_one (ps_ost (pv 0) (pv 1)), ?_⟩
    exact ⟨_, rfl, _, rfl, a, C, rfl, T, hno, .inl ⟨ha, fun dx n ne => out dx n ne⟩⟩
/-- what the written part says of an own error that keeps its one argument -/
structure X1 (P : Program) (w : World) (K : PySem.W.Frag) (mg : Str → Option Value) (base : Heap) (nm attr : Str) (C fI : Addr) (fd : FuncData) : Prop where
  g : mg nm = some (.ref C)
  T : OexC K C
  hno : PySem.W.findIn K (.ref C) attr = some none
  iC : PySem.W.findIn K (.ref C) "__init__" = some (some (.ref fI))
  tI : PySem.W.typeIn K (.ref fI) = some (.type "function")
  ok : FnOk P w K mg base CX0 1 fI fd ["self", attr] (spXi K C attr)
  b : Binds K fd ["self", attr] []
abbrev spChkU (K : PySem.W.Frag) (CB CE : Addr) : Sp := fun vs H Q E => spChk K CB vs H Q E ∨ spChkE K CB CE vs H Q E
theorem ok_chkE {f CB CE fI : Addr} {fd fdI : FuncData} {k : Nat} (F : Fun K "_check" "Books._check" sBChk f fd) (BC : BkC K CB) (UC : X1 P w K mg base "UnknownAccount" "name" CE fI fdI) : FnOk P w K mg base (L2.CX P w) (k + 3) f fd ["self", "name"] (spChkE K CB CE) := by
  refine ok_E F scBChk (fun _ => rfl) fun cdv A outer s H0 S x Q E hr hp fl => ?_
  have hu := hu_of hr
  refine ⟨_, (pss_one (ps_if (pt_cmp (pc_dnotin hu (pv 1) (pe_fld (pv 0) rfl))) (pss_one (ps_raise rfl (takes_of rfl rfl rfl rfl) (pmk_oex (dvs := []) UC.T UC.iC UC.tI UC.ok (hr.mono (by omega)) UC.b .nil pass0 (by rfl) UC.g (pa_cons (pv 1) pa_nil)))) pss_nil)), ?_⟩
  obtain ⟨⟨b, pd, sd, s⟩, z⟩ := x
  have hp : z ∉ s.accs.map Acc.n := hp
  refine go_if (et_niR (r := rBk K CB b pd sd s) (List.mem_cons_self ..) bk_dict (ev_var rfl) (ev_fldR (List.mem_cons_self ..) bk_statements (ev_var rfl) BC.cl BC.n1)) (fun _ => ?_) (fun h => ?_)
  · exact go_raise UC.T UC.hno (ev_var rfl) fun σ => fl σ _ _
  · rw [kvs_some, decide_eq_false hp] at h
    cases h
theorem ok_chkU {f CB CE fI : Addr} {fd fdI : FuncData} {k : Nat} (F : Fun K "_check" "Books._check" sBChk f fd) (BC : BkC K CB) (UC : X1 P w K mg base "UnknownAccount" "name" CE fI fdI) : FnOk P w K mg base (L2.CX P w) (k + 3) f fd ["self", "name"] (spChkU K CB CE) :=
  FnOk.or (FnOk.toX ((ok_chk (k := 0) F BC).mono (by omega))) (ok_chkE F BC UC)
/-! ### an account that is taken -/
abbrev spOpnE (K : PySem.W.Frag) (CB CT : Addr) : Sp := spE (fun x : BkX × Str => [bkR K CB x.1]) bkA (fun x => x.2 = "" ∨ x.2 ∈ x.1.names) CT (fun x => [("name", tSt.is x.2)])
abbrev spOpnU (K : PySem.W.Frag) (CB CT : Addr) : Sp := fun vs H Q E => spOpn K CB vs H Q E ∨ spOpnE K CB CT vs H Q E
theorem ok_openE {f CB CT fI : Addr} {fd fdI : FuncData} {k : Nat} (F : Fun K "open_account" "Books.open_account" sBOpn f fd) (BC : BkC K CB) (TC : X1 P w K mg base "AccountTaken" "name" CT fI fdI) : FnOk P w K mg base (L2.CX P w) (k + 3) f fd ["self", "name"] (spOpnE K CB CT) := by
  refine ok_E F scBOpn (fun _ => rfl) fun cdv A outer s H0 S x Q E hr hp fl => ?_
  have hu := hu_of hr
  refine ⟨_, (pss_cons (ps_if (PW.pt (pw_or (pt_cmpR op_eq (pv 1) pe_str (nomark _)) (pw_or1 (pt_cmp (pc_din hu (pv 1) (pe_fld (pv 0) rfl)))))) (pss_one (ps_raise rfl (takes_of rfl rfl rfl rfl) (pmk_oex (dvs := []) TC.T TC.iC TC.tI TC.ok (hr.mono (by omega)) TC.b .nil pass0 (by rfl) TC.g (pa_cons (pv 1) pa_nil)))) pss_nil)
      pss_never), ?_⟩
  obtain ⟨⟨b, pd, sd, s⟩, z⟩ := x
  have hp : z = "" ∨ z ∈ s.accs.map Acc.n := hp
  refine go_ifr (et_or (et_of (ev_eqS (ev_var rfl) ev_str)) (fun _ => et_inR (r := rBk K CB b pd sd s) (List.mem_cons_self ..) bk_dict (ev_var rfl) (ev_fldR (List.mem_cons_self ..) bk_statements (ev_var rfl) BC.cl BC.n1))) (fun _ => ?_) (fun h => ?_)
  · exact go_raise TC.T TC.hno (ev_var rfl) fun σ => fl σ _ _
  · rw [kvs_some] at h
    rcases hp with rfl | hp
    · simp at h
    · rw [decide_eq_true hp] at h
      simp at h
/-! ### postings that are refused -/
/-- what stands whatever becomes of the posting -/
structure PsgOk (x : PsgX) : Prop where
  nd : x.1.names.Nodup
  le : x.es.length ≤ 4
  sz : ∀ e ∈ x.es, Sz 40 e.2
abbrev spPstD (K : PySem.W.Frag) (CB CD : Addr) : Sp := spE0 (psgC K CB) psgA (fun x => PsgOk x ∧ (x.2.1 < 0 ∨ x.2.1 < lastDay x.1.2.2.2.posts)) CD
theorem ok_postD {f CB CD CE : Addr} {fd : FuncData} {k : Nat} (F : Fun K "post" "Books.post" sBPst f fd) (BC : BkC K CB) (EC : ErrC K mg "InvalidDay" CD) (c_latest : CalP P w K mg base k CB "latest_day" (spLat K CB)) : FnOk P w K mg base (L2.CX P w) (k + 2) f fd ["self", "day", "entries"] (spPstD K CB CD) := by
  refine ok_E0 F scBPst (fun _ => rfl) fun cdv A outer s H0 S x Q E hr hp fl => ?_
  have hu := hu_of hr
  refine ⟨_, (pss_cons (ps_if (PW.pt (pw_or (pt_cmpR op_lt (pv 1) pe_int (nomark _)) (pw_or1 (pt_cmpR op_lt (pv 1) (pe_calP (pv 0) c_latest BC.cl hr) (nomark _))))) (pss_one (ps_raise rfl (takes_of rfl rfl rfl rfl) (pmk_own0 PySem.F.excBase_ValueError EC.ex EC.g EC.kp (raises_own EC.sb EC.ty) (by rfl)))) pss_nil)
      pss_never), ?_⟩
  obtain ⟨⟨b, pd, sd, s⟩, day, ep, vxs⟩ := x
  obtain ⟨_, hp⟩ := hp
  have hp : day < 0 ∨ day < lastDay s.posts := hp
  refine go_ifr (et_or (et_of (ev_cmp (ev_var rfl) ev_int)) (fun _ => et_of (ev_cmp (ev_var rfl) (evx_prop (r := rBk K CB b pd sd s) (z := (b, pd, sd, s)) bk_ins (List.mem_cons_self ..) (ev_var rfl) rfl trivial su0).ev))) (fun _ => ?_) (fun h => ?_)
  · exact go_raise0 fun σ => fl σ _ _
  · rw [Bool.or_eq_false_iff, decide_eq_false_iff_not, decide_eq_false_iff_not] at h
    have h : ¬ day < 0 ∧ ¬ day < lastDay s.posts := h
    omega
end
end Cs
set_option maxHeartbeats 4000000
namespace Cs
open PySem PySem.Spec PyProof.Rows L2
local macro_rules | `(tactic| walk_at "rd") => `(tactic| (first
  | (refine ⟨_, rfl, ?_⟩)
  | (refine ⟨_, _, rfl, rfl, ?_⟩)
  | (refine .inl ⟨_, rfl, ?_⟩)
  | (refine .inr ⟨_, rfl, ?_⟩)
  | (refine ⟨_, _, _, _, rfl, rfl, SqL.of upd_same, rfl, ?_⟩)
  | (refine ⟨_, _, _, _, rfl, rfl, upd_same, rfl, ?_⟩)
  | (refine ⟨_, ?xs, _, ?v, rfl, rfl, ?h, ?x, ?_⟩; (case h => first | exact SqL.of (by assumption) | exact SqT.of (by assumption) | assumption); (case x => first | rfl | exact atI_nat (j := 0) rfl | exact atI_nat (j := 1) rfl))))
local macro_rules | `(tactic| walk_at "isi") => `(tactic| (first
  | (refine ⟨_, _, _, _, _, rfl, .ty _, .base (.int _), kit_ty kit_it, ?_⟩)
  | (refine ⟨_, _, _, _, _, rfl, .ty _, .base (.int _), kit_ty kit_ib, ?_⟩)
  | (refine ⟨_, _, _, _, _, rfl, .ty _, .base (.int _), kit_ty kit_ii, ?_⟩)
  | (refine ⟨_, _, _, _, _, rfl, .ty _, .base (.bl _), kit_ty kit_bt, ?_⟩)
  | (refine ⟨_, _, _, _, _, rfl, .ty _, .base (.bl _), kit_ty kit_bb, ?_⟩)
  | (refine ⟨_, _, _, _, _, rfl, .ty _, .base (.bl _), kit_ty kit_bi, ?_⟩)))
local macro_rules | `(tactic| walk_at "ev") => `(tactic| (first
  | exact ev_var rfl
  | exact ev_int
  | exact ev_str
  | exact ev_bl
  | exact ev_non
  | (refine ev_add ?_ ?_ <;> walk_at "ev")
  | (refine ev_sub ?_ ?_ <;> walk_at "ev")
  | (refine ev_mul ?_ ?_ ?_ <;> (try walk_at "ev"))
  | (refine ev_neg ?_ <;> walk_at "ev")
  | (refine ev_num ?_ <;> walk_at "ev")
  | (refine ev_den ?_ <;> walk_at "ev")
  | (refine ev_cmp ?_ ?_ <;> walk_at "ev")
  | (refine ev_eqI ?_ ?_ <;> walk_at "ev")
  | (refine ev_eqS ?_ ?_ <;> walk_at "ev")
  | (refine ev_neI ?_ ?_ <;> walk_at "ev")
  | (refine ev_neS ?_ ?_ <;> walk_at "ev")
  | (refine ev_inS ?_ ?_ <;> walk_at "ev")
  | (refine ev_niS ?_ ?_ <;> walk_at "ev")
  | (refine ev_len ?_ <;> walk_at "ev")
  | (refine ev_list ?_ <;> walk_at "ev")
  | (refine ev_listRev ?_ <;> walk_at "ev")
  | (refine ev_int1 ?_ <;> walk_at "ev")))
local macro_rules | `(tactic| walk_at "ea") => `(tactic| (first
  | exact ea_nil
  | (refine ea_cons ?_ ?_ <;> (first | walk_at "ev" | walk_at "ea" | skip))))
local macro_rules | `(tactic| walk_at "sb") => `(tactic| (first | exact True.intro | (refine And.intro rfl ?_; walk_at "sb")))
section
variable {P : Program} {w : World} {K : PySem.W.Frag} {mg : Str → Option Value} {base : Heap}
def badOf (names : List Str) (es : List (Str × Rat)) : Option Str := (es.find? fun e => !decide (e.1 ∈ names)).map (·.1)
theorem badOf_at {names : List Str} {es : List (Str × Rat)} {k : Nat} {x : Str × Rat} (h : ∀ e ∈ es.take k, e.1 ∈ names) (hx : es[k]? = some x) (hb : x.1 ∉ names) : badOf names es = some x.1 := by
  have e : es = es.take k ++ x :: es.drop (k + 1) := by
    obtain ⟨l, rfl⟩ := List.getElem?_eq_some_iff.mp hx
    rw [← List.drop_eq_getElem_cons l, List.take_append_drop]
  unfold badOf
  rw [e, List.find?_append, List.find?_eq_none.mpr (fun y m => by simp [h y m]), List.find?_cons]
  simp [hb]
theorem badOf_none {names : List Str} {es : List (Str × Rat)} (h : ∀ e ∈ es, e.1 ∈ names) : badOf names es = none := by
  unfold badOf
  rw [List.find?_eq_none.mpr (fun y m => by simp [h y m])]
  rfl
/-- the sums while the entries are walked -/
structure SumInv (names : List Str) (es : List (Str × Rat)) (k : Nat) (ms : List (Tag Rat)) : Prop where
  e : ms.map untag = sumsOf (es.take k)
  s : ∀ m ∈ ms, Sz (41 * k + 1) m.2.2
  l : ms.length ≤ k
  n : ∀ m ∈ ms, m.1 ∈ names
  kn : ∀ e ∈ es.take k, e.1 ∈ names
theorem SumInv.nil (names : List Str) (es : List (Str × Rat)) : SumInv names es 0 [] := ⟨rfl, (fun m mm => nomatch mm), Nat.le_refl _, (fun m mm => nomatch mm), (fun e m => nomatch m)⟩
theorem SumInv.old {names : List Str} {es : List (Str × Rat)} {k : Nat} {ms : List (Tag Rat)} (h : SumInv names es k ms) (z : Str) : Sz (41 * k + 1) (((tagOf ms z).map fun m => m.2.2).getD 0) := by
  cases q : tagOf ms z with
  | none => exact sz_zero (by omega)
  | some m => exact h.s m (List.mem_of_find?_eq_some q)
theorem SumInv.put {names : List Str} {es : List (Str × Rat)} {k : Nat} {ms : List (Tag Rat)} (h : SumInv names es k ms) {x : Str × Rat} (hx : es[k]? = some x) (hn : x.1 ∈ names) (hz : Sz 40 x.2) (v : V) : SumInv names es (k + 1) (putM ms x.1 v (((tagOf ms x.1).map fun m => m.2.2).getD 0 + x.2)) := by
  have hy : Sz (41 * (k + 1) + 1) (((tagOf ms x.1).map fun m => m.2.2).getD 0 + x.2) := (sz_addN (h.old x.1) hz).mono (by omega)
  refine ⟨?_, fun m mm => ?_, ?_, fun m mm => ?_, fun e m => ?_⟩
  · rw [put_untag, h.e, take_snoc hx, sumsOf_snoc]
  · unfold putM at mm
    split at mm
    · obtain ⟨m0, mm0, rfl⟩ := List.mem_map.mp mm
      by_cases q : m0.1 = x.1
      · rw [if_pos q]; exact hy
      · rw [if_neg q]; exact (h.s m0 mm0).mono (by omega)
    · rcases List.mem_append.mp mm with mm | mm
      · exact (h.s m mm).mono (by omega)
      · rw [List.mem_singleton.mp mm]; exact hy
  · have := h.l
    unfold putM
    split
    · rw [List.length_map]; omega
    · rw [List.length_append, List.length_singleton]; omega
  · unfold putM at mm
    split at mm
    · obtain ⟨m0, mm0, rfl⟩ := List.mem_map.mp mm
      by_cases q : m0.1 = x.1
      · rw [if_pos q]; exact h.n m0 mm0
      · rw [if_neg q]; exact h.n m0 mm0
    · rcases List.mem_append.mp mm with mm | mm
      · exact h.n m mm
      · rw [List.mem_singleton.mp mm]; exact hn
  · rw [take_snoc hx] at m
    rcases List.mem_append.mp m with m | m
    · exact h.kn e m
    · rw [List.mem_singleton.mp m]; exact hn
abbrev spPstA (K : PySem.W.Frag) (CB CE : Addr) : Sp := spE (fun x : PsgX × Str => psgC K CB x.1) (fun x => psgA x.1) (fun x => PsgOk x.1 ∧ 0 ≤ x.1.2.1 ∧ lastDay x.1.1.2.2.2.posts ≤ x.1.2.1 ∧ badOf x.1.1.names x.1.es = some x.2) CE (fun x => [("name", tSt.is x.2)])
abbrev spPstR (K : PySem.W.Frag) (CB CR : Addr) : Sp := spE (psgC K CB) psgA (fun x : PsgX => PsgOk x ∧ 0 ≤ x.2.1 ∧ lastDay x.1.2.2.2.posts ≤ x.2.1 ∧ badOf x.1.names x.es = none ∧ rsum (x.es.map (·.2)) ≠ 0) CR (fun x => [("rest", (tFr K).is (rsum (x.es.map (·.2))))])
theorem ok_postA {f CB CE CD zZ : Addr} {fd : FuncData} {k : Nat} (F : Fun K "post" "Books.post" sBPst f fd) (BC : BkC K CB) (c_latest : CalP P w K mg base k CB "latest_day" (spLat K CB)) (cx_check : CalMX P w K mg base (k + 1) CB "_check" ["self", "name"] (spChkU K CB CE)) (c_plus : Cal P w K mg base (k + 1) "plus" ["a", "b"] (spPlus K)) (EC : ErrC K mg "InvalidDay" CD)
    (m_ZERO : mg "ZERO" = some (.ref zZ)) (hZ : ∀ H, SqT K H zZ [.int 0, .int 1]) : FnOk P w K mg base (L2.CX P w) (k + 2) f fd ["self", "day", "entries"] (spPstA K CB CE) := by
  refine ok_E F scBPst (fun _ => rfl) fun cdv A outer s H0 S x Q E hr hp fl => ?_
  have hu := hu_of hr
  refine ⟨_, (pss_cons (ps_if (PW.pt (pw_or (pt_cmpR op_lt (pv 1) pe_int (nomark _)) (pw_or1 (pt_cmpR op_lt (pv 1) (pe_calP (pv 0) c_latest BC.cl hr) (nomark _))))) (pss_one (ps_raise rfl (takes_of rfl rfl rfl rfl) (pmk_own0 PySem.F.excBase_ValueError EC.ex EC.g EC.kp (raises_own EC.sb EC.ty) (by rfl)))) pss_nil)
      (pss_cons (ps_set (i := 3) scBPst.nd rfl (Or.inl rfl) pe_dnewK)
      (pss_cons (ps_for (passes_of rfl) rfl (pi_list (pv 2)) (pg_tup rfl (pgs_cons (pg_name (i := 4) scBPst.nd rfl (Or.inl rfl)) (pgs_cons (pg_name (i := 5) scBPst.nd rfl (Or.inl rfl)) pgs_nil))) (pss_cons (ps_expr (pe_calMX (pv 0) cx_check BC.cl hr (passes_call (takes_of rfl rfl rfl rfl) (fun _ _ _ _ h => h)) (pa_cons (pv 4) pa_nil)))
      (pss_one (ps_dput hu (pv 3) (pv 4) (pe_cal c_plus hr (by rfl) (pa_cons (pe_dget2 hu (pv 3) (pv 4) (pe_glob (v := .ref zZ) (by rfl) m_ZERO rfl) ⟨rfl, rfl, rfl, rfl⟩) (pa_cons (pv 5) pa_nil))) rfl))))
      pss_never))), ?_⟩
  obtain ⟨⟨⟨b, pd, sd, s⟩, day, ep, vxs⟩, z0⟩ := x
  obtain ⟨⟨nd, le, sz⟩, d0, d1, hbad⟩ := hp
  have d0 : 0 ≤ day := d0
  have d1 : lastDay s.posts ≤ day := d1
  generalize hes : vxs.map (·.2) = es
  have le : es.length ≤ 4 := by subst hes; exact le
  have sz : ∀ e ∈ es, Sz 40 e.2 := by subst hes; exact sz
  have hbad : badOf (s.accs.map Acc.n) es = some z0 := by subst hes; exact hbad
  refine go_ms fun hMS => ?_
  refine go_ifr (et_or (et_of (ev_cmp (ev_var rfl) ev_int)) (fun _ => et_of (ev_cmp (ev_var rfl) (evx_prop (r := rBk K CB b pd sd s) (z := (b, pd, sd, s)) bk_ins (List.mem_cons_self ..) (ev_var rfl) rfl trivial su0).ev))) (fun h => ?_) (fun _ => ?_)
  · rw [Bool.or_eq_true, decide_eq_true_eq, decide_eq_true_eq] at h
    have h : day < 0 ∨ day < lastDay s.posts := h
    omega
  refine go_newM (tFr K) fun p np => ?_
  refine go_seq (go_forR (xs := vxs.map (·.2)) (ivR_list (r := cell ep (cTg (tPr K tSt (tFr K)) vxs)) (vxs := vxs) in2 tg_says (ev_var rfl)) tgt_pair (fun k (ms : List (Tag Rat)) => (p :: S, [cell p (cMap (tFr K) ms), rBk K CB b pd sd s, cell ep (cTg (tPr K tSt (tFr K)) vxs)], [some (tRf.is b), some (tInt.is day), some (tRf.is ep), some (tRf.is p), none, none, none, none])) (fun _ _ => in2)
    (fun k ms => SumInv (s.accs.map Acc.n) es k ms) [] (SumInv.nil _ _) rfl (fun σ H o => o.sb (by walk_at "sb")) (fun k ms x hx hk => ?_) (fun ms hk σ H o => ?_))
  · rw [hes] at hx
    have hkl : k < es.length := (List.getElem?_eq_some_iff.mp hx).1
    have mx : x ∈ es := List.mem_of_getElem? hx
    have hl := hk.l
    by_cases hn : x.1 ∈ s.accs.map Acc.n
    · refine go_dropx (evx_methU (r := rBk K CB b pd sd s) (z := ((b, pd, sd, s), x.1)) (fun _ _ _ _ => Or.inl) (bk_ob "_check" rfl) in1 (ev_var rfl) (ea_cons (ev_var rfl) ea_nil) rfl hn (hC := su1)) fun _ _ => ?_
      exact go_putM (t := tFr K) (z := x.1) (P := fun y => y = ((tagOf ms x.1).map fun m => m.2.2).getD 0 + x.2) rfl (List.Perm.refl _) (ev_var rfl) (Ev.xe (ev_call (z := (((tagOf ms x.1).map fun m => m.2.2).getD 0, x.2)) (ea_cons (ev_getM (List.mem_cons_self ..) (ev_var rfl) (ev_var rfl) (ev_k (t := tFr K) (x := 0) fun H => ⟨zZ, rfl, hZ H⟩)) (ea_cons (ev_var rfl) ea_nil)) ⟨(hk.old x.1).mono (by omega), (sz x mx).mono (by decide)⟩)) (by rw [sizeLine_eq]; omega) fun v y hy σ H o => ⟨putM ms x.1 v y, by rw [hy]; exact hk.put hx hn (sz x mx) v, o.sb (by walk_at "sb")⟩
    · have e : x.1 = z0 := Option.some.inj ((badOf_at hk.kn hx hn).symm.trans hbad)
      refine go_dropx (evx_methUE (r := rBk K CB b pd sd s) (z := ((b, pd, sd, s), x.1)) (w := tNn) (fun _ _ _ _ => Or.inr) (bk_ob "_check" rfl) in1 (ev_var rfl) (ea_cons (ev_var rfl) ea_nil) rfl hn (fun σ => ?_) (hC := su1)) fun _ f => f.elim
      rw [e]
      exact Flies.less (N := [p]) (fl σ _ _) hMS hMS
  · exfalso
    have := hk.kn
    rw [hes, List.take_length] at this
    rw [badOf_none this] at hbad
    cases hbad
theorem ok_postR {f CB CE CD CR fR zZ : Addr} {fd fdR : FuncData} {k : Nat} (hk1 : 1 ≤ k) (F : Fun K "post" "Books.post" sBPst f fd) (BC : BkC K CB) (c_latest : CalP P w K mg base k CB "latest_day" (spLat K CB)) (cx_check : CalMX P w K mg base (k + 1) CB "_check" ["self", "name"] (spChkU K CB CE)) (c_plus : Cal P w K mg base (k + 1) "plus" ["a", "b"] (spPlus K)) (c_total : Cal P w K mg base (k + 1) "total" ["values"] (spTotal K)) (EC : ErrC K mg "InvalidDay" CD) (RC : X1 P w K mg base "Unbalanced" "rest" CR fR fdR)
    (m_ZERO : mg "ZERO" = some (.ref zZ)) (hZ : ∀ H, SqT K H zZ [.int 0, .int 1]) (z_list : mg "list" = none) : FnOk P w K mg base (L2.CX P w) (k + 2) f fd ["self", "day", "entries"] (spPstR K CB CR) := by
  refine ok_E F scBPst (fun _ => rfl) fun cdv A outer s H0 S x Q E hr hp fl => ?_
  have hu := hu_of hr
  refine ⟨_, (pss_cons (ps_if (PW.pt (pw_or (pt_cmpR op_lt (pv 1) pe_int (nomark _)) (pw_or1 (pt_cmpR op_lt (pv 1) (pe_calP (pv 0) c_latest BC.cl hr) (nomark _))))) (pss_one (ps_raise rfl (takes_of rfl rfl rfl rfl) (pmk_own0 PySem.F.excBase_ValueError EC.ex EC.g EC.kp (raises_own EC.sb EC.ty) (by rfl)))) pss_nil)
      (pss_cons (ps_set (i := 3) scBPst.nd rfl (Or.inl rfl) pe_dnewK)
      (pss_cons (ps_for (passes_of rfl) rfl (pi_list (pv 2)) (pg_tup rfl (pgs_cons (pg_name (i := 4) scBPst.nd rfl (Or.inl rfl)) (pgs_cons (pg_name (i := 5) scBPst.nd rfl (Or.inl rfl)) pgs_nil))) (pss_cons (ps_expr (pe_calMX (pv 0) cx_check BC.cl hr (passes_call (takes_of rfl rfl rfl rfl) (fun _ _ _ _ h => h)) (pa_cons (pv 4) pa_nil)))
      (pss_one (ps_dput hu (pv 3) (pv 4) (pe_cal c_plus hr (by rfl) (pa_cons (pe_dget2 hu (pv 3) (pv 4) (pe_glob (v := .ref zZ) (by rfl) m_ZERO rfl) ⟨rfl, rfl, rfl, rfl⟩) (pa_cons (pv 5) pa_nil))) rfl))))
      (pss_cons (ps_set (i := 6) scBPst.nd rfl (Or.inl rfl) (pe_cal c_total hr (by rfl) (pa_cons (pe_listVals rfl (by rfl) z_list (pv 3)) pa_nil)))
      (pss_cons (ps_if (pt_cmpR (op_neD hr.units) (pv 6) (pe_glob (v := .ref zZ) (by rfl) m_ZERO rfl) (nomark _)) (pss_one (ps_raise rfl (takes_of rfl rfl rfl rfl) (pmk_oex (dvs := []) RC.T RC.iC RC.tI RC.ok (hr.mono (by omega)) RC.b .nil pass0 (by rfl) RC.g (pa_cons (pv 6) pa_nil)))) pss_nil)
      pss_never))))), ?_⟩
  obtain ⟨⟨b, pd, sd, s⟩, day, ep, vxs⟩ := x
  obtain ⟨⟨nd, le, sz⟩, d0, d1, hbad, hrest⟩ := hp
  have d0 : 0 ≤ day := d0
  have d1 : lastDay s.posts ≤ day := d1
  refine go_ms fun hMS => ?_
  have fl2 : ∀ σ F G, Flies ⟨H0, fps (psgC K CB ((b, pd, sd, s), day, ep, vxs)), S, psgC K CB ((b, pd, sd, s), day, ep, vxs), F, G⟩ σ CR [("rest", (tFr K).is (rsum ((vxs.map (·.2)).map (·.2))))] E := fl
  generalize hes : vxs.map (·.2) = es at fl2
  have le : es.length ≤ 4 := by subst hes; exact le
  have sz : ∀ e ∈ es, Sz 40 e.2 := by subst hes; exact sz
  have hbad : badOf (s.accs.map Acc.n) es = none := by subst hes; exact hbad
  have hrest : rsum (es.map (·.2)) ≠ 0 := by subst hes; exact hrest
  refine go_ifr (et_or (et_of (ev_cmp (ev_var rfl) ev_int)) (fun _ => et_of (ev_cmp (ev_var rfl) (evx_prop (r := rBk K CB b pd sd s) (z := (b, pd, sd, s)) bk_ins (List.mem_cons_self ..) (ev_var rfl) rfl trivial su0).ev))) (fun h => ?_) (fun _ => ?_)
  · rw [Bool.or_eq_true, decide_eq_true_eq, decide_eq_true_eq] at h
    have h : day < 0 ∨ day < lastDay s.posts := h
    omega
  refine go_newM (tFr K) fun p np => ?_
  refine go_seq (go_forR (xs := vxs.map (·.2)) (ivR_list (r := cell ep (cTg (tPr K tSt (tFr K)) vxs)) (vxs := vxs) in2 tg_says (ev_var rfl)) tgt_pair (fun k (ms : List (Tag Rat)) => (p :: S, [cell p (cMap (tFr K) ms), rBk K CB b pd sd s, cell ep (cTg (tPr K tSt (tFr K)) vxs)], [some (tRf.is b), some (tInt.is day), some (tRf.is ep), some (tRf.is p), none, none, none, none])) (fun _ _ => in2)
    (fun k ms => SumInv (s.accs.map Acc.n) es k ms) [] (SumInv.nil _ _) rfl (fun σ H o => o.sb (by walk_at "sb")) (fun k ms x hx hk => ?_) (fun ms hk σ H o => ?_))
  · rw [hes] at hx
    have hkl : k < es.length := (List.getElem?_eq_some_iff.mp hx).1
    have mx : x ∈ es := List.mem_of_getElem? hx
    have hl := hk.l
    have hn : x.1 ∈ s.accs.map Acc.n := Decidable.byContradiction fun q => by
      rw [badOf_at hk.kn hx q] at hbad
      cases hbad
    refine go_dropx (evx_methU (r := rBk K CB b pd sd s) (z := ((b, pd, sd, s), x.1)) (fun _ _ _ _ => Or.inl) (bk_ob "_check" rfl) in1 (ev_var rfl) (ea_cons (ev_var rfl) ea_nil) rfl hn (hC := su1)) fun _ _ => ?_
    exact go_putM (t := tFr K) (z := x.1) (P := fun y => y = ((tagOf ms x.1).map fun m => m.2.2).getD 0 + x.2) rfl (List.Perm.refl _) (ev_var rfl) (Ev.xe (ev_call (z := (((tagOf ms x.1).map fun m => m.2.2).getD 0, x.2)) (ea_cons (ev_getM (List.mem_cons_self ..) (ev_var rfl) (ev_var rfl) (ev_k (t := tFr K) (x := 0) fun H => ⟨zZ, rfl, hZ H⟩)) (ea_cons (ev_var rfl) ea_nil)) ⟨(hk.old x.1).mono (by omega), (sz x mx).mono (by decide)⟩)) (by rw [sizeLine_eq]; omega) fun v y hy σ H o => ⟨putM ms x.1 v y, by rw [hy]; exact hk.put hx hn (sz x mx) v, o.sb (by walk_at "sb")⟩
  · have e0 : (ms.map fun m => m.2.2) = (sumsOf es).map (·.2) := by
      have := hk.e
      rw [hes, List.take_length] at this
      rw [← this, List.map_map]
      rfl
    have hl := hk.l
    have hs := hk.s
    rw [hes] at hl hs
    dsimp only
    refine go_at o ?_
    refine go_set (x := rsum (es.map (·.2))) (ev_is (ev_call (z := (ms.map fun m => m.2.2)) (ea_cons (ev_valsM (K := K) (List.mem_cons_self ..) (ev_var rfl)) ea_nil) ⟨fun r mr => ?_, ?_⟩) (by rw [e0, sums_total])) ?_
    · obtain ⟨m, mm, rfl⟩ := List.mem_map.mp mr
      exact (hs m mm).mono (by omega)
    · rw [List.length_map]; omega
    refine go_ifr (et_of (ev_neD eqFr (ev_var rfl) (ev_k (t := tFr K) (x := 0) fun H => ⟨zZ, rfl, hZ H⟩) (lay_fr _) (lay_fr _) (by simp [eqFr]))) (fun _ => ?_) (fun h => ?_)
    · exact go_raise RC.T RC.hno (ev_var rfl) fun σ => Flies.less (N := [p]) (fl2 σ _ _) hMS hMS
    · simp [hrest] at h
end
end Cs
set_option maxHeartbeats 4000000
namespace Cs
open PySem PySem.Spec PyProof.Rows L2
local macro_rules | `(tactic| walk_at "rd") => `(tactic| (first
  | (refine ⟨_, rfl, ?_⟩)
  | (refine ⟨_, _, rfl, rfl, ?_⟩)
  | (refine .inl ⟨_, rfl, ?_⟩)
  | (refine .inr ⟨_, rfl, ?_⟩)
  | (refine ⟨_, _, _, _, rfl, rfl, SqL.of upd_same, rfl, ?_⟩)
  | (refine ⟨_, _, _, _, rfl, rfl, upd_same, rfl, ?_⟩)
  | (refine ⟨_, ?xs, _, ?v, rfl, rfl, ?h, ?x, ?_⟩; (case h => first | exact SqL.of (by assumption) | exact SqT.of (by assumption) | assumption); (case x => first | rfl | exact atI_nat (j := 0) rfl | exact atI_nat (j := 1) rfl))))
local macro_rules | `(tactic| walk_at "isi") => `(tactic| (first
  | (refine ⟨_, _, _, _, _, rfl, .ty _, .base (.int _), kit_ty kit_it, ?_⟩)
  | (refine ⟨_, _, _, _, _, rfl, .ty _, .base (.int _), kit_ty kit_ib, ?_⟩)
  | (refine ⟨_, _, _, _, _, rfl, .ty _, .base (.int _), kit_ty kit_ii, ?_⟩)
  | (refine ⟨_, _, _, _, _, rfl, .ty _, .base (.bl _), kit_ty kit_bt, ?_⟩)
  | (refine ⟨_, _, _, _, _, rfl, .ty _, .base (.bl _), kit_ty kit_bb, ?_⟩)
  | (refine ⟨_, _, _, _, _, rfl, .ty _, .base (.bl _), kit_ty kit_bi, ?_⟩)))
local macro_rules | `(tactic| walk_at "ev") => `(tactic| (first
  | exact ev_var rfl
  | exact ev_int
  | exact ev_str
  | exact ev_bl
  | exact ev_non
  | (refine ev_add ?_ ?_ <;> walk_at "ev")
  | (refine ev_sub ?_ ?_ <;> walk_at "ev")
  | (refine ev_mul ?_ ?_ ?_ <;> (try walk_at "ev"))
  | (refine ev_neg ?_ <;> walk_at "ev")
  | (refine ev_num ?_ <;> walk_at "ev")
  | (refine ev_den ?_ <;> walk_at "ev")
  | (refine ev_cmp ?_ ?_ <;> walk_at "ev")
  | (refine ev_eqI ?_ ?_ <;> walk_at "ev")
  | (refine ev_eqS ?_ ?_ <;> walk_at "ev")
  | (refine ev_neI ?_ ?_ <;> walk_at "ev")
  | (refine ev_neS ?_ ?_ <;> walk_at "ev")
  | (refine ev_inS ?_ ?_ <;> walk_at "ev")
  | (refine ev_niS ?_ ?_ <;> walk_at "ev")
  | (refine ev_len ?_ <;> walk_at "ev")
  | (refine ev_list ?_ <;> walk_at "ev")
  | (refine ev_listRev ?_ <;> walk_at "ev")
  | (refine ev_int1 ?_ <;> walk_at "ev")))
local macro_rules | `(tactic| walk_at "ea") => `(tactic| (first
  | exact ea_nil
  | (refine ea_cons ?_ ?_ <;> (first | walk_at "ev" | walk_at "ea" | skip))))
local macro_rules | `(tactic| walk_at "sb") => `(tactic| (first | exact True.intro | (refine And.intro rfl ?_; walk_at "sb")))
section
variable {P : Program} {w : World} {K : PySem.W.Frag} {mg : Str → Option Value} {base : Heap}
abbrev spLPlus (K : PySem.W.Frag) : Sp := spP (AFr2 K) (tFr K) (fun x => Sz 1000 x.1 ∧ Sz 1000 x.2) (fun x => x.1 + x.2)
abbrev spLFracD (K : PySem.W.Frag) : Sp := spN (fun x : Addr × Addr × List Int => [cell x.1 (cSt K x.1 x.2.1 x.2.2)]) (fun x => [tRf.is x.1]) (tFr K) (fun _ => True) (fun _ r => Dn 1440 r)
abbrev sLPlus : Stmt := topS 19
theorem scLPlus : FnScope ["a", "b"] ["a", "b"] (defScope sLPlus) := ⟨rfl, rfl, rfl, by decide +kernel, rfl, by decide +kernel, by decide +kernel⟩
theorem ok_lplus {f : Addr} {fd : FuncData} {k : Nat} (F : Fun K "_law_plus" "_law_plus" sLPlus f fd) (c_law_lowest : Cal P w K mg base k "_law_lowest" ["p", "q"] spLow) : FnOk P w K mg base CX0 (k + 1) f fd ["a", "b"] (spLPlus K) := by
  refine ok_P F scLPlus (fun _ => rfl) fun cdv A outer s H0 S x Q E hr hp out => ⟨_, (pss_one (ps_ret (pe_cal c_law_lowest hr (by rfl) (pa_cons (pe_op op_add (pe_op op_mulA (pe_ix ix_tup (pv 0) pe_int (fun _ _ => rfl)) (pe_ix ix_tup (pv 1) pe_int (fun _ _ => rfl))) (pe_op op_mulA (pe_ix ix_tup (pv 1) pe_int (fun _ _ => rfl)) (pe_ix ix_tup (pv 0) pe_int (fun _ _ => rfl)))) (pa_cons (pe_op op_mulA (pe_ix ix_tup (pv 0) pe_int (fun _ _ => rfl)) (pe_ix ix_tup (pv 1) pe_int (fun _ _ => rfl))) pa_nil))))), ?_⟩
  obtain ⟨h, g⟩ := hp
  refine go_end (y := x.1 + x.2) (ev_is (ev_low (ev_add (ev_mul (ev_num (ev_var rfl)) (ev_den (ev_var rfl)) ?_) (ev_mul (ev_num (ev_var rfl)) (ev_den (ev_var rfl)) ?_)) (ev_mul (ev_den (ev_var rfl)) (ev_den (ev_var rfl)) ?_) ?_ ?_ ?_) ?_) out
  · exact mulZ h.nn g.dd
  · exact mulZ g.nn h.dd
  · exact mulZ h.dd g.dd
  · have a1 : 0 < x.1.den := x.1.den_pos
    have a2 : 0 < x.2.den := x.2.den_pos
    exact_mod_cast Nat.mul_pos a1 a2
  · have h1 := pow_lt h.nn g.dd
    have h2 := pow_lt g.nn h.dd
    exact s24' (n := 2001) (by
      have := Int.natAbs_add_le (x.1.num * (x.2.den : Int)) (x.2.num * (x.1.den : Int))
      have e : (2 : Nat) ^ 2001 = 2 ^ (1000 + 1000) + 2 ^ (1000 + 1000) := by rw [← Nat.two_mul, ← Nat.pow_succ']
      rw [e]
      omega) (by decide)
  · exact s24' (pow_lt h.dd g.dd) (by decide)
  · exact add_div _ _
theorem ok_lfracD {f : Addr} {fd : FuncData} {k : Nat} (F : Fun K "_law_fraction" "_law_fraction" sLFrac f fd) (c_law_draw : Cal P w K mg base k "_law_draw" ["state", "many"] (spDrawSA K)) (c_law_lowest : Cal P w K mg base k "_law_lowest" ["p", "q"] spLow) : FnOk P w K mg base CX0 (k + 1) f fd ["state"] (spLFracD K) := by
  refine ok_N F scLFrac (fun _ => rfl) fun cdv A outer s H0 S x Q E hr hp out => ⟨_, (pss_one (ps_ret (pe_cal c_law_lowest hr (by rfl) (pa_cons (pe_op op_sub (pe_cal c_law_draw hr (by rfl) (pa_cons (pv 0) (pa_cons pe_int pa_nil))) pe_int) (pa_cons (pe_op op_add pe_int (pe_cal c_law_draw hr (by rfl) (pa_cons (pv 0) (pa_cons pe_int pa_nil)))) pa_nil))))), ?_⟩
  obtain ⟨d, l, ns⟩ := x
  have d41 : ∀ q : Int, q.natAbs < 100 → q.natAbs < 2 ^ 2400 := fun q h => Nat.lt_trans h (Nat.lt_of_lt_of_le (by decide : 100 < 2 ^ 7) (Nat.pow_le_pow_right (by decide) (by decide)))
  refine go_endx (Evx.imp (evx_low (K := K) (evx_sub (evx_drawS (K := K) rfl (List.mem_cons_self ..) ev_int (by decide) (lt8 (by decide))) (Ev.xe ev_int)) (evx_add (Ev.xe ev_int) (evx_drawS (K := K) rfl (List.mem_cons_self ..) ev_int (by decide) (lt8 (by decide)))) ?_) ?_) out (hC := fun c z => z)
  · rintro p q ⟨i', j', ⟨h1, h2⟩, rfl, rfl⟩ ⟨i, j, rfl, ⟨h3, h4⟩, rfl⟩
    exact ⟨by omega, d41 _ (by omega), d41 _ (by omega)⟩
  · rintro r ⟨p, q, ⟨i', j', ⟨h1, h2⟩, rfl, rfl⟩, ⟨i, j, rfl, ⟨h3, h4⟩, rfl⟩, rfl⟩
    exact Dn.of h1 h2 h3 h4
theorem rpre_dn {n : Nat} {xs : List Rat} (h : ∀ r ∈ xs, Dn n r) : ∀ i, i ≤ xs.length → Dn (n * i) (rpre xs i)
  | 0, _ => Dn.zero _
  | i + 1, hi => by
    have hx : xs[i]? = some xs[i] := List.getElem?_eq_getElem (by omega)
    rw [rpre_succ hx, Nat.mul_succ]
    exact (rpre_dn h i (by omega)).add (h _ (List.mem_of_getElem? hx))
theorem Dn.big {n : Nat} {r : Rat} (h : Dn n r) (e : n < 2 ^ 100) : Sz 1000 r := h.sz (Nat.lt_of_lt_of_le e (Nat.pow_le_pow_right (by decide) (by decide))) (Nat.lt_of_lt_of_le (by decide : 60 < 2 ^ 6) (Nat.pow_le_pow_right (by decide) (by decide)))
abbrev spLSum (K : PySem.W.Frag) : Sp := spP (fun xs : List Rat => [(tLs K (tFr K)).is xs]) (tFr K) (fun xs => ∃ n, (∀ r ∈ xs, Dn n r) ∧ n * xs.length < 2 ^ 90 ∧ n < 2 ^ 90) rsum
abbrev sLSum : Stmt := topS 27
theorem scLSum : FnScope ["values", "found", "value"] ["values"] (defScope sLSum) := ⟨rfl, rfl, rfl, by decide +kernel, rfl, by decide +kernel, by decide +kernel⟩
theorem ok_lsum {f : Addr} {fd : FuncData} {k : Nat} (F : Fun K "_law_sum" "_law_sum" sLSum f fd) (c_law_plus : Cal P w K mg base k "_law_plus" ["a", "b"] (spLPlus K)) : FnOk P w K mg base CX0 (k + 1) f fd ["values"] (spLSum K) := by
  refine ok_P F scLSum (fun _ => rfl) fun cdv A outer s H0 S xs Q E hr hp out => ⟨_, (pss_cons (ps_set (i := 1) scLSum.nd rfl (Or.inl rfl) (pe_tup (pa_cons pe_int (pa_cons pe_int pa_nil))))
      (pss_cons (ps_for PassesOwn.never rfl (pi_list (pv 0)) (pg_name (i := 2) scLSum.nd rfl (Or.inl rfl)) (pss_one (ps_set (i := 1) scLSum.nd rfl (Or.inl rfl) (pe_cal c_law_plus hr (by rfl) (pa_cons (pv 1) (pa_cons (pv 2) pa_nil))))))
      (pss_one (ps_ret (pv 1))))), ?_⟩
  obtain ⟨n, hn, hl, hb⟩ := hp
  have pw : (2 : Nat) ^ 90 ≤ 2 ^ 100 := Nat.pow_le_pow_right (by decide) (by decide)
  refine go_set (x := 0) (ev_frac (K := K) (r := 0) ev_int ev_int rfl rfl) ?_
  refine go_seq (go_for (xs := xs) (iv_list (t := tFr K) (ev_var rfl)) tgt_name (fun k (_ : Unit) => ([], [some ((tLs K (tFr K)).is xs), some ((tFr K).is (rpre xs k)), none])) (fun _ _ => True) () trivial (fun σ H o => o.sb (by walk_at "sb")) (fun k _ x f hx _ => ?_) (fun _ _ σ H o => ?_))
  · have hk : k < xs.length := (List.getElem?_eq_some_iff.mp hx).1
    have d1 : Dn (n * k) (rpre xs k) := rpre_dn hn k (by omega)
    have d2 := hn x (List.mem_of_getElem? hx)
    have : n * k ≤ n * xs.length := Nat.mul_le_mul_left n (by omega)
    exact go_set1 (x := rpre xs (k + 1)) (ev_is (ev_call (z := (rpre xs k, x)) (ea_cons (ev_var rfl) (ea_cons (ev_var rfl) ea_nil)) ⟨d1.big (by omega), d2.big (by omega)⟩) (rpre_succ hx).symm) fun σ H o => ⟨(), trivial, o.sb (by walk_at "sb")⟩
  · dsimp only
    refine go_at o ?_
    rw [rpre_all]
    exact go_end (ev_var rfl) out
/-! ### what is due -/
inductive Due where
  | day | acc (z : Str) | rest (r : Rat) | num (n : Int)
def tDue (K : PySem.W.Frag) : Ty Due := ⟨fun H v x => match x with
  | .day => v = .str "day"
  | .acc z => (tPr K tSt tSt).r H v ("account", z)
  | .rest r => (tPr K tSt (tFr K)).r H v ("rest", r)
  | .num n => v = .int n, fun {H H' v x} e h => by
  cases x with
  | day => exact h
  | acc z => exact (tPr K tSt tSt).mono e h
  | rest r => exact (tPr K tSt (tFr K)).mono e h
  | num n => exact h⟩
def lastP (ps : List Post) : Post := ps.getLast?.getD (0, [])
def due (as : List Str) (ps : List Post) (day : Int) (es : List (Str × Rat)) : Due :=
  if day < 0 ∨ (0 < ps.length ∧ day < (lastP ps).1) then .day else match badOf as es with
    | some z => .acc z
    | none => if rsum (es.map (·.2)) = 0 then .num (ps.length : Int) else .rest (rsum (es.map (·.2)))
structure DueX where
  ap : Addr
  avs : List (V × Str)
  pp : Addr
  pvs : List (V × Post)
  day : Int
  es : List (Str × Rat)
abbrev spLDue (K : PySem.W.Frag) : Sp := spN (fun x : DueX => [cell x.ap (cTg tSt x.avs), cell x.pp (cTg (tPost K) x.pvs)]) (fun x => [tRf.is x.ap, tRf.is x.pp, tInt.is x.day, (tLs K (tEn K)).is x.es]) (tDue K) (fun x => (∀ e ∈ x.es, Dn 5000 e.2) ∧ x.es.length ≤ 10) (fun x y => y = due (x.avs.map (·.2)) (x.pvs.map (·.2)) x.day x.es)
theorem lastP_at {ps : List Post} (h : 0 < ps.length) : atI ps (-1) = some (lastP ps) := by
  have ne : ps ≠ [] := fun e => by rw [e] at h; cases h
  refine last_at ?_
  unfold lastP
  rw [List.getLast?_eq_some_getLast ne]
  rfl
abbrev sLDue : Stmt := topS 28
theorem scLDue : FnScope ["accounts", "postings", "day", "entries", "name", "amount", "rest"] ["accounts", "postings", "day", "entries"] (defScope sLDue) := ⟨rfl, rfl, rfl, by decide +kernel, rfl, by decide +kernel, by decide +kernel⟩
theorem ok_ldue {f : Addr} {fd : FuncData} {k : Nat} (F : Fun K "_law_due" "_law_due" sLDue f fd) (c_law_sum : Cal P w K mg base k "_law_sum" ["values"] (spLSum K)) (z_len : mg "len" = none) : FnOk P w K mg base CX0 (k + 1) f fd ["accounts", "postings", "day", "entries"] (spLDue K) := by
  refine ok_N F scLDue (fun _ => rfl) fun cdv A outer s H0 S x Q E hr hp out => ⟨_, (pss_cons (ps_if (PW.pt (pw_or (pt_cmpR op_lt (pv 2) pe_int (nomark _)) (pw_or1 (PW.pt (pw_and (pt_cmpR op_gt (pe_callB call_len_seq (by rfl) z_len PySem.boot_len (pa_cons (pv 1) pa_nil)) pe_int (nomark _)) (pw_and1 (pt_cmpR op_lt (pv 2) (pe_ix ix_tup (pe_ix ix_list (pv 1) (pe_un un_neg pe_int) (fun _ _ => rfl)) pe_int (fun _ _ => rfl)) (nomark _)))))))) (pss_one (ps_ret pe_str)) pss_nil)
      (pss_cons (ps_for PassesOwn.never rfl (pi_list (pv 3)) (pg_tup rfl (pgs_cons (pg_name (i := 4) scLDue.nd rfl (Or.inl rfl)) (pgs_cons (pg_name (i := 5) scLDue.nd rfl (Or.inl rfl)) pgs_nil))) (pss_one (ps_if (pt_cmpR op_notIn_seq (pv 4) (pv 0) (by rfl)) (pss_one (ps_ret (pe_tup (pa_cons pe_str (pa_cons (pv 4) pa_nil))))) pss_nil)))
      (pss_cons (ps_set (i := 6) scLDue.nd rfl (Or.inl rfl) (pe_cal c_law_sum hr (by rfl) (pa_cons (pe_lc (own := [("name", 4), ("amount", 5)]) (g := gTup K 2 (gCons (gName 4) (gCons (gName 5) gNil))) (tt := tYes) rfl scLDue.nd (pi_list (pv 3)) (blkOk_by (own := [("name", 4), ("amount", 5)]) (N := ["accounts", "postings", "day", "entries", "name", "amount", "rest"]) (sc := defScope sLDue) (by decide +kernel)) (fun _ _ _ _ _ => (pg_tup rfl (pgs_cons (pg_name (i := 4) scLDue.nd rfl (Or.inl rfl)) (pgs_cons (pg_name (i := 5) scLDue.nd rfl (Or.inl rfl)) pgs_nil)))) (fun _ _ _ _ _ => pts_nil) (fun _ _ _ _ _ => (pv 5))) pa_nil)))
      (pss_cons (ps_if (pt_cmpR (op_neD hr.units) (pv 6) (pe_tup (pa_cons pe_int (pa_cons pe_int pa_nil))) (nomark _)) (pss_one (ps_ret (pe_tup (pa_cons pe_str (pa_cons (pv 6) pa_nil))))) pss_nil)
      (pss_one (ps_ret (pe_callB call_len_seq (by rfl) z_len PySem.boot_len (pa_cons (pv 1) pa_nil)))))))), ?_⟩
  obtain ⟨ap, avs, pp, pvs, day, es⟩ := x
  obtain ⟨hdn, hle⟩ := hp
  have hle : es.length ≤ 10 := hle
  have out : Rt [cell ap (cTg tSt avs), cell pp (cTg (tPost K) pvs)] S H0 (tDue K) (fun y => y = due (avs.map (·.2)) (pvs.map (·.2)) day es) Q := out
  generalize has : avs.map (·.2) = as at out
  generalize hps : pvs.map (·.2) = ps at out
  have eps : pvs.length = ps.length := by rw [← hps, List.length_map]
  refine go_ifr (et_or (et_of (ev_cmp (ev_var rfl) ev_int)) (fun _ => et_and (et_of (ev_cmp (ev_lenR (r := cell pp (cTg (tPost K) pvs)) in1 tg_says.l (ev_var rfl)) ev_int)) (fun hlen => et_of (ev_cmp (ev_var rfl) (ev_fst (ev_ixR (t := tPost K) (x := ((lastP ps).1, (lastP ps).2)) (r := cell pp (cTg (tPost K) pvs)) in1 tg_says.l (ev_var rfl) (ev_neg ev_int) (by
    rw [hps]
    refine lastP_at ?_
    have := of_decide_eq_true hlen
    rw [hps] at this
    have : (0 : Int) < (ps.length : Int) := this
    omega))))))) (fun h => ?_) (fun h => ?_)
  · refine go_end (y := Due.day) (ev_to (u := tDue K) (y := Due.day) ev_str fun _ _ r => r) out ?_ (hC := fun c z => z)
    unfold due
    rw [if_pos]
    rw [hps] at h
    simp only [Bool.or_eq_true, Bool.and_eq_true, decide_eq_true_eq] at h
    rcases h with h | ⟨h1, h2⟩
    · exact .inl h
    · exact .inr ⟨by have : (0 : Int) < (ps.length : Int) := h1; omega, h2⟩
  · have nd : ¬ (day < 0 ∨ (0 < ps.length ∧ day < (lastP ps).1)) := by
      rw [hps] at h
      simp only [Bool.or_eq_false_iff, Bool.and_eq_false_iff, decide_eq_false_iff_not] at h
      rintro (q | ⟨q1, q2⟩)
      · exact h.1 q
      · rcases h.2 with z | z
        · exact z (show (0 : Int) < (ps.length : Int) by omega)
        · exact z q2
    refine go_seq (go_for (xs := es) (iv_list (t := tEn K) (ev_var rfl)) tgt_pair (fun k (_ : Unit) => ([cell ap (cTg tSt avs), cell pp (cTg (tPost K) pvs)], [some (tRf.is ap), some (tRf.is pp), some (tInt.is day), some ((tLs K (tEn K)).is es), none, none, none])) (fun k _ => ∀ e ∈ es.take k, e.1 ∈ as) () (fun e m => nomatch m) (fun σ H o => o.sb (by walk_at "sb")) (fun k _ x f hx hk => ?_) (fun _ hk σ H o => ?_))
    · refine go_if (et_of (ev_niSR (r := cell ap (cTg tSt avs)) in0 tg_says (ev_var rfl) (ev_var rfl))) (fun h => ?_) (fun h => ?_)
      · rw [has] at h
        have hb : x.1 ∉ as := by simpa using h
        refine go_end (y := Due.acc x.1) (ev_to (u := tDue K) (y := Due.acc x.1) (ev_pr (K := K) ev_str (ev_var rfl)) fun _ _ r => r) out ?_ (hC := fun c z => z)
        unfold due
        rw [if_neg nd, badOf_at hk hx hb]
      · rw [has] at h
        have hb : x.1 ∈ as := by simpa using h
        refine go_next fun σ H o => ⟨(), fun e m => ?_, o.sb (by walk_at "sb")⟩
        rw [take_snoc hx] at m
        rcases List.mem_append.mp m with m | m
        · exact hk e m
        · rw [List.mem_singleton.mp m]; exact hb
    · have hk : ∀ e ∈ es.take es.length, e.1 ∈ as := hk
      rw [List.take_length] at hk
      dsimp only
      refine go_at o ?_
      refine go_set (x := rsum (es.map (·.2))) (ev_is (ev_call (z := (es.map (·.2) : List Rat)) (ea_cons (ev_lcm (K := K) (f := fun e : Str × Rat => e.2) (iv_list (t := tEn K) (ev_var rfl)) tgt_pair (by simp) (by rw [sizeLine_eq]; omega) (fun _ _ _ x _ xm => ev_var rfl)) ea_nil) ⟨5000, fun r mr => ?_, by rw [List.length_map]; omega, by decide⟩) rfl) ?_
      · obtain ⟨e, me, rfl⟩ := List.mem_map.mp mr
        exact hdn e me
      refine go_ifr (et_of (ev_neD eqFr (ev_var rfl) (ev_frac (K := K) (r := 0) ev_int ev_int rfl rfl) (lay_fr _) (lay_fr _) (by simp [eqFr]))) (fun h => ?_) (fun h => ?_)
      · have h : rsum (es.map (·.2)) ≠ 0 := by simpa using h
        refine go_end (y := Due.rest (rsum (es.map (·.2)))) (ev_to (u := tDue K) (y := Due.rest (rsum (es.map (·.2)))) (ev_pr (K := K) ev_str (ev_var rfl)) fun _ _ r => r) out ?_ (hC := fun c z => z)
        unfold due
        rw [if_neg nd, badOf_none hk]
        show _ = if rsum (es.map (·.2)) = 0 then _ else _
        rw [if_neg h]
      · have h : rsum (es.map (·.2)) = 0 := by simpa using h
        refine go_end (y := Due.num (ps.length : Int)) (ev_to (u := tDue K) (y := Due.num (ps.length : Int)) (ev_lenR (r := cell pp (cTg (tPost K) pvs)) in1 tg_says.l (ev_var rfl)) fun _ _ r => by rw [hps] at r; exact r) out ?_ (hC := fun c z => z)
        unfold due
        rw [if_neg nd, badOf_none hk]
        show _ = if rsum (es.map (·.2)) = 0 then _ else _
        rw [if_pos h]
end
end Cs
set_option maxHeartbeats 4000000
namespace Cs
open PySem PySem.Spec PyProof.Rows L2
local macro_rules | `(tactic| walk_at "rd") => `(tactic| (first
  | (refine ⟨_, rfl, ?_⟩)
  | (refine ⟨_, _, rfl, rfl, ?_⟩)
  | (refine .inl ⟨_, rfl, ?_⟩)
  | (refine .inr ⟨_, rfl, ?_⟩)
  | (refine ⟨_, _, _, _, rfl, rfl, SqL.of upd_same, rfl, ?_⟩)
  | (refine ⟨_, _, _, _, rfl, rfl, upd_same, rfl, ?_⟩)
  | (refine ⟨_, ?xs, _, ?v, rfl, rfl, ?h, ?x, ?_⟩; (case h => first | exact SqL.of (by assumption) | exact SqT.of (by assumption) | assumption); (case x => first | rfl | exact atI_nat (j := 0) rfl | exact atI_nat (j := 1) rfl))))
local macro_rules | `(tactic| walk_at "isi") => `(tactic| (first
  | (refine ⟨_, _, _, _, _, rfl, .ty _, .base (.int _), kit_ty kit_it, ?_⟩)
  | (refine ⟨_, _, _, _, _, rfl, .ty _, .base (.int _), kit_ty kit_ib, ?_⟩)
  | (refine ⟨_, _, _, _, _, rfl, .ty _, .base (.int _), kit_ty kit_ii, ?_⟩)
  | (refine ⟨_, _, _, _, _, rfl, .ty _, .base (.bl _), kit_ty kit_bt, ?_⟩)
  | (refine ⟨_, _, _, _, _, rfl, .ty _, .base (.bl _), kit_ty kit_bb, ?_⟩)
  | (refine ⟨_, _, _, _, _, rfl, .ty _, .base (.bl _), kit_ty kit_bi, ?_⟩)))
local macro_rules | `(tactic| walk_at "ev") => `(tactic| (first
  | exact ev_var rfl
  | exact ev_int
  | exact ev_str
  | exact ev_bl
  | exact ev_non
  | (refine ev_add ?_ ?_ <;> walk_at "ev")
  | (refine ev_sub ?_ ?_ <;> walk_at "ev")
  | (refine ev_mul ?_ ?_ ?_ <;> (try walk_at "ev"))
  | (refine ev_neg ?_ <;> walk_at "ev")
  | (refine ev_num ?_ <;> walk_at "ev")
  | (refine ev_den ?_ <;> walk_at "ev")
  | (refine ev_cmp ?_ ?_ <;> walk_at "ev")
  | (refine ev_eqI ?_ ?_ <;> walk_at "ev")
  | (refine ev_eqS ?_ ?_ <;> walk_at "ev")
  | (refine ev_neI ?_ ?_ <;> walk_at "ev")
  | (refine ev_neS ?_ ?_ <;> walk_at "ev")
  | (refine ev_inS ?_ ?_ <;> walk_at "ev")
  | (refine ev_niS ?_ ?_ <;> walk_at "ev")
  | (refine ev_len ?_ <;> walk_at "ev")
  | (refine ev_list ?_ <;> walk_at "ev")
  | (refine ev_listRev ?_ <;> walk_at "ev")
  | (refine ev_int1 ?_ <;> walk_at "ev")))
local macro_rules | `(tactic| walk_at "ea") => `(tactic| (first
  | exact ea_nil
  | (refine ea_cons ?_ ?_ <;> (first | walk_at "ev" | walk_at "ea" | skip))))
local macro_rules | `(tactic| walk_at "sb") => `(tactic| (first | exact True.intro | (refine And.intro rfl ?_; walk_at "sb")))
section
variable {P : Program} {w : World} {K : PySem.W.Frag} {mg : Str → Option Value} {base : Heap}
abbrev spLStm (K : PySem.W.Frag) : Sp := spN (fun x : Addr × List (V × Post) × Str × List Str => [cell x.1 (cTg (tPost K) x.2.1)]) (fun x => [tRf.is x.1, tSt.is x.2.2.1]) (tLs K (tRow K)) (fun x => PsOk x.2.2.2 (x.2.1.map (·.2))) (fun x y => y = stmt (x.2.1.map (·.2)) x.2.2.1)
abbrev sLStm : Stmt := topS 29
theorem scLStm : FnScope ["postings", "wanted", "rows", "balance", "at", "amounts", "moved", "name", "amount"] ["postings", "wanted"] (defScope sLStm) := ⟨rfl, rfl, rfl, by decide +kernel, rfl, by decide +kernel, by decide +kernel⟩
theorem ok_lstm {f : Addr} {fd : FuncData} {k : Nat} (F : Fun K "_law_statement" "_law_statement" sLStm f fd) (c_law_sum : Cal P w K mg base k "_law_sum" ["values"] (spLSum K)) (c_law_plus : Cal P w K mg base k "_law_plus" ["a", "b"] (spLPlus K)) (z_len : mg "len" = none) (z_range : mg "range" = none) : FnOk P w K mg base CX0 (k + 1) f fd ["postings", "wanted"] (spLStm K) := by
  refine ok_N F scLStm (fun _ => rfl) fun cdv A outer s H0 S x Q E hr hp out => ⟨_, (pss_cons (ps_set (i := 2) scLStm.nd rfl (Or.inl rfl) (pe_lst pa_nil))
      (pss_cons (ps_set (i := 3) scLStm.nd rfl (Or.inl rfl) (pe_tup (pa_cons pe_int (pa_cons pe_int pa_nil))))
      (pss_cons (ps_for PassesOwn.never rfl (pi_range1 rfl z_range (pa_cons (pe_callB call_len_seq (by rfl) z_len PySem.boot_len (pa_cons (pv 0) pa_nil)) pa_nil)) (pg_name (i := 4) scLStm.nd rfl (Or.inl rfl)) (pss_cons (ps_setLc (i := 5) (own := [("name", 7), ("amount", 8)]) (g := gTup K 2 (gCons (gName 7) (gCons (gName 8) gNil)))  rfl scLStm.nd rfl rfl (sw_true rfl rfl rfl (by decide +kernel)) (pi_list (pe_ix ix_tup (pe_ix ix_list (pv 0) (pv 4) (fun _ _ => rfl)) pe_int (fun _ _ => rfl))) (blkOk_by (own := [("name", 7), ("amount", 8)]) (N := ["postings", "wanted", "rows", "balance", "at", "amounts", "moved", "name", "amount"]) (sc := defScope sLStm) (by decide +kernel)) (fun _ _ _ _ _ => (pg_tup rfl (pgs_cons (pg_name (i := 7) scLStm.nd rfl (Or.inl rfl)) (pgs_cons (pg_name (i := 8) scLStm.nd rfl (Or.inl rfl)) pgs_nil)))) (fun _ _ _ _ _ => (pts_one (pt_cmpR op_eq (pv 7) (pv 1) (nomark _)))) (fun _ _ _ _ _ => (pv 8)))
      (pss_one (ps_if (pt_cmpR op_gt (pe_callB call_len_seq (by rfl) z_len PySem.boot_len (pa_cons (pv 5) pa_nil)) pe_int (nomark _)) (pss_cons (ps_set (i := 6) scLStm.nd rfl (Or.inl rfl) (pe_cal c_law_sum hr (by rfl) (pa_cons (pv 5) pa_nil)))
      (pss_cons (ps_set (i := 3) scLStm.nd rfl (Or.inl rfl) (pe_cal c_law_plus hr (by rfl) (pa_cons (pv 3) (pa_cons (pv 6) pa_nil))))
      (pss_one (ps_expr (pe_bm PySem.F.plainAttrs_list PySem.F.slot_list_append PySem.F.type_list_append mt_append (pv 2) (pa_cons (pe_tup (pa_cons (pe_ix ix_tup (pe_ix ix_list (pv 0) (pv 4) (fun _ _ => rfl)) pe_int (fun _ _ => rfl)) (pa_cons (pv 4) (pa_cons (pv 6) (pa_cons (pv 3) pa_nil))))) pa_nil)))))) pss_nil))))
      (pss_one (ps_ret (pv 2)))))), ?_⟩
  obtain ⟨pp, pvs, z, as⟩ := x
  have out : Rt [cell pp (cTg (tPost K) pvs)] S H0 (tLs K (tRow K)) (fun y => y = stmt (pvs.map (·.2)) z) Q := out
  have hp : PsOk as (pvs.map (·.2)) := hp
  refine go_ms fun hMS => ?_
  refine go_newN (t := tRow K) el_nil (by decide) fun p np => ?_
  refine go_set (x := 0) (ev_frac (K := K) (r := 0) ev_int ev_int rfl rfl) ?_
  generalize hps : pvs.map (·.2) = ps at hp out
  have eps : pvs.length = ps.length := by rw [← hps, List.length_map]
  have n30 := hp.n
  refine go_seq (go_for (xs := (List.range (ps.length : Int).toNat).map fun (i : Nat) => (i : Int)) (iv_range1 (ev_is (ev_lenR (r := cell pp (cTg (tPost K) pvs)) in1 tg_says.l (ev_var rfl)) (by rw [hps])) (by omega) (by omega)) tgt_name (fun k (_ : Unit) => ([cell p (cLs (tRow K) (stmtN ps z k)), cell pp (cTg (tPost K) pvs)], [some (tRf.is pp), some (tSt.is z), some (tRf.is p), some ((tFr K).is (lastR (stmtN ps z k))), none, none, none, none, none])) (fun _ _ => True) () trivial (fun σ H o => o.sb (by walk_at "sb")) (fun k _ x f hx _ => ?_) (fun _ _ σ H o => ?_))
  · obtain ⟨kl, rfl⟩ : k < ps.length ∧ x = (k : Int) := by
      rw [List.getElem?_map] at hx
      cases c : (List.range (ps.length : Int).toNat)[k]? with
      | none => rw [c] at hx; cases hx
      | some i =>
        rw [c] at hx
        obtain ⟨l1, e1⟩ := List.getElem?_eq_some_iff.mp c
        rw [List.length_range] at l1
        rw [List.getElem_range] at e1
        have : ((i : Nat) : Int) = x := Option.some.inj hx
        exact ⟨by omega, by omega⟩
    have hpk : ps[k]? = some ps[k] := List.getElem?_eq_getElem kl
    generalize hq : ps[k] = q at hpk
    have mq := List.mem_of_getElem? hpk
    have l4 := hp.le q mq
    obtain ⟨sl, sr, sd⟩ := stmtN_ok hp z k (by omega)
    have da : Dn 20000 (rsum (amts q.2 z)) := amts_dn (hp.dn q mq) (hp.le q mq)
    refine go_set (x := amts q.2 z) (ev_lcf (K := K) (p := fun e : Str × Rat => decide (e.1 = z)) (f := fun e => e.2) (iv_list (t := tEn K) (ev_snd (t := tInt) (x := q.1) (ev_ixR (t := tPost K) (x := (q.1, q.2)) (r := cell pp (cTg (tPost K) pvs)) in1 tg_says.l (ev_var rfl) (ev_var rfl) (by rw [hps]; exact atI_nat hpk)))) tgt_pair (by simp) (by rw [sizeLine_eq]; omega) (fun _ _ _ x _ xm => et_of (ev_eqS (ev_var rfl) (ev_var rfl))) (fun _ _ _ x _ xm px => ev_var rfl)) ?_
    refine go_if (et_of (ev_cmp (ev_len (ev_var rfl)) ev_int)) (fun h => ?_) (fun h => go_next fun σ H o => ⟨(), trivial, ?_⟩)
    · have ne : amts q.2 z ≠ [] := by
        intro e
        rw [e] at h
        exact absurd h (by decide)
      refine go_set (x := rsum (amts q.2 z)) (ev_is (ev_call (z := (amts q.2 z : List Rat)) (ea_cons (ev_var rfl) ea_nil) ⟨5000, fun r mr => ?_, ?_, by decide⟩) rfl) ?_
      · obtain ⟨e, me, rfl⟩ := List.mem_map.mp mr
        exact hp.dn q mq e (List.mem_filter.mp me).1
      · have := amts_len (es := q.2) (z := z)
        omega
      refine go_set (x := lastR (stmtN ps z k) + rsum (amts q.2 z)) (ev_is (ev_call (z := (lastR (stmtN ps z k), rsum (amts q.2 z))) (ea_cons (ev_var rfl) (ea_cons (ev_var rfl) ea_nil)) ⟨sd.big (by omega), da.big (by decide)⟩) rfl) ?_
      refine go_app1 (t := tRow K) (x := (q.1, (k : Int), rsum (amts q.2 z), lastR (stmtN ps z k) + rsum (amts q.2 z))) (p := p) rfl (List.Perm.refl _) (ev_tup (K := K) (α := Row) (ea_cons (ev_fst (u := tLs K (tEn K)) (y := q.2) (ev_ixR (t := tPost K) (x := (q.1, q.2)) (r := cell pp (cTg (tPost K) pvs)) in1 tg_says.l (ev_var rfl) (ev_var rfl) (by rw [hps]; exact atI_nat hpk))) (ea_cons (ev_var rfl) (ea_cons (ev_var rfl) (ea_cons (ev_var rfl) ea_nil)))) rfl (by show 4 ≤ sizeLine; decide)) (by rw [sizeLine_eq]; omega) fun σ H o => ⟨(), trivial, ?_⟩
      have e : stmtN ps z (k + 1) = stmtN ps z k ++ [(q.1, (k : Int), rsum (amts q.2 z), lastR (stmtN ps z k) + rsum (amts q.2 z))] := by
        rw [stmtN_succ hpk]
        unfold stepS
        rw [if_neg ne]
      dsimp only
      rw [e, lastR_snoc]
      exact o.sb (by walk_at "sb")
    · have em : amts q.2 z = [] := by
        cases c : amts q.2 z with
        | nil => rfl
        | cons a l =>
          rw [c] at h
          have : ¬ ((0 : Int) < ((a :: l).length : Int)) := of_decide_eq_false h
          rw [List.length_cons] at this
          omega
      have e : stmtN ps z (k + 1) = stmtN ps z k := by
        rw [stmtN_succ hpk]
        unfold stepS
        rw [if_pos em]
      dsimp only
      rw [e]
      exact o.sb (by walk_at "sb")
  · have el : ((List.range (ps.length : Int).toNat).map fun (i : Nat) => (i : Int)).length = ps.length := by rw [List.length_map, List.length_range]; omega
    rw [el] at o
    dsimp only
    refine go_at o ?_
    refine go_frz (K := K) (i := 2) (t := tRow K) rfl hMS np (fun a m => hMS a m) ?_
    exact go_end (y := stmt ps z) (ev_var rfl) out (hC := fun c z => z) (hS := fun a m => m)
abbrev spLBal (K : PySem.W.Frag) : Sp := spN (fun x : (Addr × List (V × Post) × Str × List Str) × Int => [cell x.1.1 (cTg (tPost K) x.1.2.1)]) (fun x => [tRf.is x.1.1, tSt.is x.1.2.2.1, tInt.is x.2]) (tFr K) (fun x => PsOk x.1.2.2.2 (x.1.2.1.map (·.2))) (fun x y => y = balOn (stmt (x.1.2.1.map (·.2)) x.1.2.2.1) x.2)
abbrev sLBal : Stmt := topS 30
theorem scLBal : FnScope ["postings", "wanted", "day", "balance", "row"] ["postings", "wanted", "day"] (defScope sLBal) := ⟨rfl, rfl, rfl, by decide +kernel, rfl, by decide +kernel, by decide +kernel⟩
theorem ok_lbal {f : Addr} {fd : FuncData} {k : Nat} (F : Fun K "_law_balance" "_law_balance" sLBal f fd) (c_law_statement : Cal P w K mg base k "_law_statement" ["postings", "wanted"] (spLStm K)) : FnOk P w K mg base CX0 (k + 1) f fd ["postings", "wanted", "day"] (spLBal K) := by
  refine ok_N F scLBal (fun _ => rfl) fun cdv A outer s H0 S x Q E hr hp out => ⟨_, (pss_cons (ps_set (i := 3) scLBal.nd rfl (Or.inl rfl) (pe_tup (pa_cons pe_int (pa_cons pe_int pa_nil))))
      (pss_cons (ps_for PassesOwn.never rfl (pi_list (pe_cal c_law_statement hr (by rfl) (pa_cons (pv 0) (pa_cons (pv 1) pa_nil)))) (pg_name (i := 4) scLBal.nd rfl (Or.inl rfl)) (pss_one (ps_if (pt_cmpR op_le (pe_ix ix_tup (pv 4) pe_int (fun _ _ => rfl)) (pv 2) (nomark _)) (pss_one (ps_set (i := 3) scLBal.nd rfl (Or.inl rfl) (pe_ix ix_tup (pv 4) pe_int (fun _ _ => rfl)))) pss_nil)))
      (pss_one (ps_ret (pv 3))))), ?_⟩
  obtain ⟨⟨pp, pvs, z, as⟩, day⟩ := x
  have out : Rt [cell pp (cTg (tPost K) pvs)] S H0 (tFr K) (fun y => y = balOn (stmt (pvs.map (·.2)) z) day) Q := out
  refine go_set (x := 0) (ev_frac (K := K) (r := 0) ev_int ev_int rfl rfl) ?_
  refine go_seq (go_for (xs := stmt (pvs.map (·.2)) z) (iv_list (t := tRow K) (evx_call (z := (pp, pvs, z, as)) (ea_cons (ev_var rfl) (ea_cons (ev_var rfl) ea_nil)) hp su0).ev) tgt_name (fun k (_ : Unit) => ([cell pp (cTg (tPost K) pvs)], [some (tRf.is pp), some (tSt.is z), some (tInt.is day), some ((tFr K).is (balOn ((stmt (pvs.map (·.2)) z).take k) day)), none])) (fun _ _ => True) () trivial (fun σ H o => o.sb (by walk_at "sb")) (fun k _ x f hx _ => ?_) (fun _ _ σ H o => ?_))
  · have e : balOn ((stmt (pvs.map (·.2)) z).take (k + 1)) day = if x.1 ≤ day then x.2.2.2 else balOn ((stmt (pvs.map (·.2)) z).take k) day := by rw [take_snoc hx, balOn_snoc]
    refine go_if (et_of (ev_cmp (ev_item (n := 0) (ev_var rfl) rfl) (ev_var rfl))) (fun h => ?_) (fun h => go_next fun σ H o => ⟨(), trivial, ?_⟩)
    · have h : x.1 ≤ day := of_decide_eq_true h
      refine go_set1 (x := x.2.2.2) (ev_item (n := 3) (ev_var rfl) rfl) fun σ H o => ⟨(), trivial, ?_⟩
      dsimp only
      rw [e, if_pos h]
      exact o.sb (by walk_at "sb")
    · have h : ¬ x.1 ≤ day := of_decide_eq_false h
      dsimp only
      rw [e, if_neg h]
      exact o.sb (by walk_at "sb")
  · rw [List.take_length] at o
    dsimp only
    refine go_at o ?_
    exact go_end (ev_var rfl) out (hC := fun c z => z)
end
end Cs
set_option maxHeartbeats 4000000
namespace Cs
open PySem PySem.Spec PyProof.Rows L2
local macro_rules | `(tactic| walk_at "rd") => `(tactic| (first
  | (refine ⟨_, rfl, ?_⟩)
  | (refine ⟨_, _, rfl, rfl, ?_⟩)
  | (refine .inl ⟨_, rfl, ?_⟩)
  | (refine .inr ⟨_, rfl, ?_⟩)
  | (refine ⟨_, _, _, _, rfl, rfl, SqL.of upd_same, rfl, ?_⟩)
  | (refine ⟨_, _, _, _, rfl, rfl, upd_same, rfl, ?_⟩)
  | (refine ⟨_, ?xs, _, ?v, rfl, rfl, ?h, ?x, ?_⟩; (case h => first | exact SqL.of (by assumption) | exact SqT.of (by assumption) | assumption); (case x => first | rfl | exact atI_nat (j := 0) rfl | exact atI_nat (j := 1) rfl))))
local macro_rules | `(tactic| walk_at "isi") => `(tactic| (first
  | (refine ⟨_, _, _, _, _, rfl, .ty _, .base (.int _), kit_ty kit_it, ?_⟩)
  | (refine ⟨_, _, _, _, _, rfl, .ty _, .base (.int _), kit_ty kit_ib, ?_⟩)
  | (refine ⟨_, _, _, _, _, rfl, .ty _, .base (.int _), kit_ty kit_ii, ?_⟩)
  | (refine ⟨_, _, _, _, _, rfl, .ty _, .base (.bl _), kit_ty kit_bt, ?_⟩)
  | (refine ⟨_, _, _, _, _, rfl, .ty _, .base (.bl _), kit_ty kit_bb, ?_⟩)
  | (refine ⟨_, _, _, _, _, rfl, .ty _, .base (.bl _), kit_ty kit_bi, ?_⟩)))
local macro_rules | `(tactic| walk_at "ev") => `(tactic| (first
  | exact ev_var rfl
  | exact ev_int
  | exact ev_str
  | exact ev_bl
  | exact ev_non
  | (refine ev_add ?_ ?_ <;> walk_at "ev")
  | (refine ev_sub ?_ ?_ <;> walk_at "ev")
  | (refine ev_mul ?_ ?_ ?_ <;> (try walk_at "ev"))
  | (refine ev_neg ?_ <;> walk_at "ev")
  | (refine ev_num ?_ <;> walk_at "ev")
  | (refine ev_den ?_ <;> walk_at "ev")
  | (refine ev_cmp ?_ ?_ <;> walk_at "ev")
  | (refine ev_eqI ?_ ?_ <;> walk_at "ev")
  | (refine ev_eqS ?_ ?_ <;> walk_at "ev")
  | (refine ev_neI ?_ ?_ <;> walk_at "ev")
  | (refine ev_neS ?_ ?_ <;> walk_at "ev")
  | (refine ev_inS ?_ ?_ <;> walk_at "ev")
  | (refine ev_niS ?_ ?_ <;> walk_at "ev")
  | (refine ev_len ?_ <;> walk_at "ev")
  | (refine ev_list ?_ <;> walk_at "ev")
  | (refine ev_listRev ?_ <;> walk_at "ev")
  | (refine ev_int1 ?_ <;> walk_at "ev")))
local macro_rules | `(tactic| walk_at "ea") => `(tactic| (first
  | exact ea_nil
  | (refine ea_cons ?_ ?_ <;> (first | walk_at "ev" | walk_at "ea" | skip))))
local macro_rules | `(tactic| walk_at "sb") => `(tactic| (first | exact True.intro | (refine And.intro rfl ?_; walk_at "sb")))
section
variable {P : Program} {w : World} {K : PySem.W.Frag} {mg : Str → Option Value} {base : Heap}
theorem row_dp {H : Hp} {v : V} {x : Row} (h : (tRow K).r H v x) : Dp K H v (.tuple [.int x.1, .int x.2.1, (eqFr (K := K)).d x.2.2.1, (eqFr (K := K)).d x.2.2.2]) := by
  obtain ⟨p, vs, rfl, s, ft⟩ := h
  cases vs with
  | nil => exact ft.elim
  | cons a vs =>
    cases vs with
    | nil => exact ft.2.elim
    | cons b vs =>
      cases vs with
      | nil => exact ft.2.2.elim
      | cons c vs =>
        cases vs with
        | nil => exact ft.2.2.2.elim
        | cons d vs =>
          cases vs with
          | cons _ _ => exact ft.2.2.2.2.elim
          | nil => exact .tup s (.cons (eqInt.dp ft.1) (.cons (eqInt.dp ft.2.1) (.cons (eqFr.dp ft.2.2.1) (.cons (eqFr.dp ft.2.2.2.1) .nil))))
theorem row_dep (x : Row) : (PyData.tuple [.int x.1, .int x.2.1, (eqFr (K := K)).d x.2.2.1, (eqFr (K := K)).d x.2.2.2]).depth ≤ 2 := by
  have h1 := (eqFr (K := K)).dep x.2.2.1
  have h2 := (eqFr (K := K)).dep x.2.2.2
  have e : (eqFr (K := K)).n = 1 := rfl
  rw [e] at h1 h2
  generalize (eqFr (K := K)).d x.2.2.1 = d1 at h1
  generalize (eqFr (K := K)).d x.2.2.2 = d2 at h2
  simp only [PyData.depth, PyData.depthAll]
  omega
theorem row_inj (x y : Row) : PyData.eqv (.tuple [.int x.1, .int x.2.1, (eqFr (K := K)).d x.2.2.1, (eqFr (K := K)).d x.2.2.2]) (.tuple [.int y.1, .int y.2.1, (eqFr (K := K)).d y.2.2.1, (eqFr (K := K)).d y.2.2.2]) = true ↔ x = y := by
  have i1 := (eqFr (K := K)).inj x.2.2.1 y.2.2.1
  have i2 := (eqFr (K := K)).inj x.2.2.2 y.2.2.2
  generalize (eqFr (K := K)).d x.2.2.1 = d1 at i1 ⊢
  generalize (eqFr (K := K)).d x.2.2.2 = d2 at i2 ⊢
  generalize (eqFr (K := K)).d y.2.2.1 = e1 at i1 ⊢
  generalize (eqFr (K := K)).d y.2.2.2 = e2 at i2 ⊢
  simp only [PyData.eqv, PyData.eqvAll, Bool.and_true, Bool.and_eq_true, i1, i2, beq_iff_eq]
  exact ⟨fun ⟨h1, h2, h3, h4⟩ => Prod.ext h1 (Prod.ext h2 (Prod.ext h3 h4)), fun h => by rw [h]; exact ⟨rfl, rfl, rfl, rfl⟩⟩
def eqRow : Eqt K (tRow K) := ⟨fun x => .tuple [.int x.1, .int x.2.1, (eqFr (K := K)).d x.2.2.1, (eqFr (K := K)).d x.2.2.2], 2, row_dp, row_dep, row_inj⟩
theorem lay_row (x : Row) : ((eqRow (K := K)).d x).canLay0 = true := by
  show (PyData.tuple [.int x.1, .int x.2.1, (eqFr (K := K)).d x.2.2.1, (eqFr (K := K)).d x.2.2.2]).canLay0 = true
  simp only [PyData.canLay0, PyData.canLayAll0, lay_fr, Bool.and_true]
abbrev eqPost : Eqt K (tPost K) := eqPr eqInt (eqLs (eqPr eqSt eqFr))
theorem lay_post {x : Post} (h : ∀ e ∈ x.2, PyData.strOk e.1 = true) : ((eqPost (K := K)).d x).canLay0 = true := lay_pr (lay_int _) (lay_ls _ fun e m => lay_pr (lay_st (h e m)) (lay_fr _))
/-- books, and the law's two lists, tell the same -/
structure Corr (s : Bk) (as : List Str) (ps : List Post) : Prop where
  ok : PsOk as ps
  p : s.posts.map (·.2) = ps
  b : s.accs.map bare = as.map fun z => (z, stmt ps z)
  st : ∀ z ∈ as, PyData.strOk z = true
  len : as.length ≤ 40
theorem Corr.n {s : Bk} {as : List Str} {ps : List Post} (h : Corr s as ps) : s.accs.map Acc.n = as := by
  rw [bare_n, h.b, List.map_map]
  exact List.map_id _
theorem Corr.acc {s : Bk} {as : List Str} {ps : List Post} (h : Corr s as ps) {z : Str} (m : z ∈ as) : ∃ c, c ∈ s.accs ∧ c.n = z ∧ c.rows.map (·.2) = stmt ps z := by
  have hz : (z, stmt ps z) ∈ s.accs.map bare := by rw [h.b]; exact List.mem_map.mpr ⟨z, m, rfl⟩
  obtain ⟨c, mc, e⟩ := List.mem_map.mp hz
  exact ⟨c, mc, congrArg Prod.fst e, congrArg Prod.snd e⟩
theorem newest_last {s : Bk} {ps : List Post} (h : s.posts.map (·.2) = ps) : lastDay s.posts = newest ps := by
  unfold lastDay newest
  rw [← h, List.getLast?_map]
  cases s.posts.getLast? <;> rfl
theorem newest_lastP {ps : List Post} (h : 0 < ps.length) : newest ps = (lastP ps).1 := by
  have ne : ps ≠ [] := fun e => by rw [e] at h; cases h
  unfold newest lastP
  rw [List.getLast?_eq_some_getLast ne]
  rfl
structure StX where
  b : BkX
  ap : Addr
  avs : List (V × Str)
  pp : Addr
  pvs : List (V × Post)
abbrev stC (K : PySem.W.Frag) (CB : Addr) (x : StX) : List RS := [bkR K CB x.b, cell x.ap (cTg tSt x.avs), cell x.pp (cTg (tPost K) x.pvs)]
abbrev spLIs (K : PySem.W.Frag) (CB : Addr) : Sp := spN (stC K CB) (fun x => [tRf.is x.b.1, tRf.is x.ap, tRf.is x.pp]) tBl (fun x => Corr x.b.2.2.2 (x.avs.map (·.2)) (x.pvs.map (·.2))) (fun _ y => y = true)
abbrev sLIs : Stmt := topS 31
theorem scLIs : FnScope ["books", "accounts", "postings", "newest", "name", "day"] ["books", "accounts", "postings"] (defScope sLIs) := ⟨rfl, rfl, rfl, by decide +kernel, rfl, by decide +kernel, by decide +kernel⟩
theorem ok_lis {f CB : Addr} {fd : FuncData} {k : Nat} (F : Fun K "_law_is_state" "_law_is_state" sLIs f fd) (BC : BkC K CB) (c_law_sum : Cal P w K mg base k "_law_sum" ["values"] (spLSum K)) (c_law_statement : Cal P w K mg base k "_law_statement" ["postings", "wanted"] (spLStm K)) (c_law_balance : Cal P w K mg base k "_law_balance" ["postings", "wanted", "day"] (spLBal K))
    (c_balance : CalM P w K mg base k CB "balance" ["self", "name"] (spBal K CB)) (c_balance_on : CalM P w K mg base k CB "balance_on" ["self", "name", "day"] (spOn K CB)) (c_statement : CalM P w K mg base k CB "statement" ["self", "name"] (spStm K CB)) (c_accounts : CalM P w K mg base k CB "accounts" ["self"] (spAcc K CB)) (c_postings : CalM P w K mg base k CB "postings" ["self"] (spPos K CB)) (c_latest : CalP P w K mg base k CB "latest_day" (spLat K CB)) (z_len : mg "len" = none) : FnOk P w K mg base CX0 (k + 2) f fd ["books", "accounts", "postings"] (spLIs K CB) := by
  have c_law_sum := c_law_sum.mono (Nat.le_succ k)
  have c_law_statement := c_law_statement.mono (Nat.le_succ k)
  have c_law_balance := c_law_balance.mono (Nat.le_succ k)
  have c_balance := c_balance.mono (Nat.le_succ k)
  have c_balance_on := c_balance_on.mono (Nat.le_succ k)
  have c_statement := c_statement.mono (Nat.le_succ k)
  have c_accounts := c_accounts.mono (Nat.le_succ k)
  have c_postings := c_postings.mono (Nat.le_succ k)
  refine ok_N F scLIs (fun _ => rfl) fun cdv A outer s0 H0 S x Q E hr hp out => ⟨_, (pss_cons (ps_set (i := 3) scLIs.nd rfl (Or.inl rfl) (pe_un un_neg pe_int))
      (pss_cons (ps_if (pt_cmpR op_gt (pe_callB call_len_seq (by rfl) z_len PySem.boot_len (pa_cons (pv 2) pa_nil)) pe_int (nomark _)) (pss_one (ps_set (i := 3) scLIs.nd rfl (Or.inl rfl) (pe_ix ix_tup (pe_ix ix_list (pv 2) (pe_un un_neg pe_int) (fun _ _ => rfl)) pe_int (fun _ _ => rfl)))) pss_nil)
      (pss_cons (ps_if (PW.pt (pw_or (pt_cmpR (op_neD hr.units) (pe_calM0 (pv 0) c_accounts BC.cl hr) (pv 1) (nomark _)) (pw_or (pt_cmpR (op_neD hr.units) (pe_calM0 (pv 0) c_postings BC.cl hr) (pv 2) (nomark _)) (pw_or1 (pt_cmpR op_ne (pe_calP (pv 0) c_latest BC.cl hr) (pv 3) (nomark _)))))) (pss_one (ps_ret pe_bl)) pss_nil)
      (pss_cons (ps_for PassesOwn.never rfl (pi_list (pv 1)) (pg_name (i := 4) scLIs.nd rfl (Or.inl rfl)) (pss_cons (ps_if (pt_cmpR (op_neD hr.units) (pe_calM (pv 0) c_statement BC.cl hr (pa_cons (pv 4) pa_nil)) (pe_cal c_law_statement hr (by rfl) (pa_cons (pv 2) (pa_cons (pv 4) pa_nil))) (nomark _)) (pss_one (ps_ret pe_bl)) pss_nil)
      (pss_cons (ps_for PassesOwn.never rfl (pi_list (pe_lst (pa_cons pe_int (pa_cons (pe_op op_sub (pv 3) pe_int) (pa_cons (pv 3) pa_nil))))) (pg_name (i := 5) scLIs.nd rfl (Or.inl rfl)) (pss_one (ps_if (pt_cmpR (op_neD hr.units) (pe_calM (pv 0) c_balance_on BC.cl hr (pa_cons (pv 4) (pa_cons (pv 5) pa_nil))) (pe_cal c_law_balance hr (by rfl) (pa_cons (pv 2) (pa_cons (pv 4) (pa_cons (pv 5) pa_nil)))) (nomark _)) (pss_one (ps_ret pe_bl)) pss_nil)))
      (pss_one (ps_if (pt_cmpR (op_neD hr.units) (pe_calM (pv 0) c_balance BC.cl hr (pa_cons (pv 4) pa_nil)) (pe_cal c_law_balance hr (by rfl) (pa_cons (pv 2) (pa_cons (pv 4) (pa_cons (pv 3) pa_nil)))) (nomark _)) (pss_one (ps_ret pe_bl)) pss_nil)))))
      (pss_one (ps_ret (pe_cmpR (op_eqD hr.units) (pe_cal c_law_sum hr (by rfl) (pa_cons (pe_lc (own := [("name", 4)]) (g := gName 4) (tt := tYes) rfl scLIs.nd (pi_list (pv 1)) (blkOk_by (own := [("name", 4)]) (N := ["books", "accounts", "postings", "newest", "name", "day"]) (sc := defScope sLIs) (by decide +kernel)) (fun _ _ _ _ _ => (pg_name (i := 4) scLIs.nd rfl (Or.inl rfl))) (fun _ _ _ _ _ => pts_nil) (fun _ _ _ _ _ => (pe_calM (pv 0) c_balance BC.cl hr (pa_cons (pv 4) pa_nil)))) pa_nil)) (pe_tup (pa_cons pe_int (pa_cons pe_int pa_nil))) (nomark _)))))))), ?_⟩
  obtain ⟨⟨b, pd, sd, s⟩, ap, avs, pp, pvs⟩ := x
  have hp : Corr s (avs.map (·.2)) (pvs.map (·.2)) := hp
  have out : Rt [rBk K CB b pd sd s, cell ap (cTg tSt avs), cell pp (cTg (tPost K) pvs)] S H0 tBl (fun y => y = true) Q := out
  generalize has : avs.map (·.2) = as at hp
  generalize hps : pvs.map (·.2) = ps at hp
  have eps : pvs.length = ps.length := by rw [← hps, List.length_map]
  have hok : PsOk as (pvs.map (·.2)) := by rw [hps]; exact hp.ok
  have nds : (s.accs.map Acc.n).Nodup := by rw [hp.n]; exact hp.ok.nd
  have n30 := hp.ok.n
  have lp : s.posts.length ≤ 1000 := by
    have := congrArg List.length hp.p
    rw [List.length_map] at this
    omega
  have rows_len : ∀ z, (stmt ps z).length ≤ 30 := fun z => Nat.le_trans (stmtN_ok hp.ok z ps.length (Nat.le_refl _)).1 n30
  refine go_set (x := -1) (ev_neg ev_int) ?_
  refine go_ifj (fun (_ : Unit) => ⟨H0, fps [rBk K CB b pd sd s, cell ap (cTg tSt avs), cell pp (cTg (tPost K) pvs)], S, [rBk K CB b pd sd s, cell ap (cTg tSt avs), cell pp (cTg (tPost K) pvs)], [], [some (tRf.is b), some (tRf.is ap), some (tRf.is pp), some (tInt.is (newest ps)), none, none]⟩) (fun _ => True) (Et.toX (P := fun h => h = decide ((pvs.map (·.2)).length > (0 : Int))) (et_of (ev_cmp (ev_lenR (r := cell pp (cTg (tPost K) pvs)) in2 tg_says.l (ev_var rfl)) ev_int)) rfl) (fun h nx hnx => ?_) (fun h => ⟨(), trivial, ?_⟩) (fun _ _ => ?_)
  · rw [hps] at h
    have h0 : 0 < ps.length := by
      have : (0 : Int) < (ps.length : Int) := of_decide_eq_true h.symm
      omega
    exact go_set1 (x := newest ps) (ev_is (ev_fst (u := tLs K (tEn K)) (y := (lastP ps).2) (x := (lastP ps).1) (ev_ixR (t := tPost K) (x := ((lastP ps).1, (lastP ps).2)) (r := cell pp (cTg (tPost K) pvs)) in2 tg_says.l (ev_var rfl) (ev_neg ev_int) (by rw [hps]; exact lastP_at h0))) (newest_lastP h0).symm) fun σ H o => hnx () trivial σ H (o.sb (by walk_at "sb"))
  · rw [hps] at h
    have h0 : ps.length = 0 := by
      have : ¬ ((0 : Int) < (ps.length : Int)) := of_decide_eq_false h.symm
      omega
    have e : newest ps = -1 := by rw [List.length_eq_zero_iff.mp h0]; rfl
    intro σ H o
    rw [e]
    exact o.sb (by walk_at "sb")
  refine go_ifr (et_or (et_of (ev_neDc eqSt (evx_meth (r := rBk K CB b pd sd s) (z := (b, pd, sd, s)) (bk_ob "accounts" rfl) in0 (ev_var rfl) ea_nil rfl trivial su0).ev (ev_var rfl) in1 (lay_ls _ fun z m => lay_st (hp.st z (by rw [← hp.n]; exact m))) (lay_ls _ fun z m => lay_st (hp.st z (by rw [← has]; exact m))) (by simp [eqLs, eqSt])))
    (fun _ => et_or (et_of (ev_neDc (eqPost (K := K)) (evx_meth (r := rBk K CB b pd sd s) (z := (b, pd, sd, s)) (bk_ob "postings" rfl) in0 (ev_var rfl) ea_nil rfl lp su0).ev (ev_var rfl) in2 (lay_ls _ fun p m => lay_post fun e me => hp.st _ (hp.ok.kn p (by rw [← hp.p]; exact m) e me)) (lay_ls _ fun p m => lay_post fun e me => hp.st _ (hp.ok.kn p (by rw [← hps]; exact m) e me)) (by simp [eqLs, eqPr, eqSt, eqInt, eqFr])))
      (fun _ => et_of (ev_neI (evx_prop (r := rBk K CB b pd sd s) (z := (b, pd, sd, s)) bk_ins in0 (ev_var rfl) rfl trivial su0).ev (ev_var rfl))))) (fun h => ?_) (fun _ => ?_)
  · exfalso
    rw [hps, has] at h
    have e1 : BkX.names (b, pd, sd, s) = as := hp.n
    have e2 : (b, pd, sd, s).2.2.2.posts.map (·.2) = ps := hp.p
    have e3 : lastDay (b, pd, sd, s).2.2.2.posts = newest ps := newest_last hp.p
    rw [e1, e2, e3] at h
    simp at h
  refine go_seq (go_forR (xs := avs.map (·.2)) (ivR_list (r := cell ap (cTg tSt avs)) (vxs := avs) in1 tg_says (ev_var rfl)) tgt_name (fun k (_ : Unit) => (S, [rBk K CB b pd sd s, cell ap (cTg tSt avs), cell pp (cTg (tPost K) pvs)], [some (tRf.is b), some (tRf.is ap), some (tRf.is pp), some (tInt.is (newest ps)), none, none])) (fun _ _ => in1) (fun _ _ => True) () trivial rfl (fun σ H o => o.sb (by walk_at "sb")) (fun k _ z hx _ => ?_) (fun _ _ σ H o => ?_))
  · have mz : z ∈ as := by rw [← has]; exact List.mem_of_getElem? hx
    obtain ⟨c, mc, rfl, hrows⟩ := hp.acc mz
    have rl : c.rows.length ≤ 1000 := by
      have := rows_len c.n
      rw [← hrows, List.length_map] at this
      omega
    have hacc : HasAcc ((b, pd, sd, s), c.n) c := ⟨nds, mc, rfl⟩
    refine go_ifr (et_of (ev_neD (eqLs (eqRow (K := K))) (evx_meth (r := rBk K CB b pd sd s) (z := (((b, pd, sd, s), c.n), c)) (bk_ob "statement" rfl) in0 (ev_var rfl) (ea_cons (ev_var rfl) ea_nil) rfl hacc su0).ev (evx_call (z := (pp, pvs, c.n, as)) (ea_cons (ev_var rfl) (ea_cons (ev_var rfl) ea_nil)) hok su2).ev (lay_ls _ fun x _ => lay_row x) (lay_ls _ fun x _ => lay_row x) (by simp [eqLs, eqRow]))) (fun h => ?_) (fun _ => ?_)
    · exfalso
      rw [hps, hrows] at h
      simp at h
    refine go_seq (go_for (xs := [0, newest ps - 1, newest ps]) (iv_list (t := tInt) (ev_lst (K := K) (el_cons ev_int (el_cons (ev_sub (ev_var rfl) ev_int) (el_cons (ev_var rfl) el_nil))) (by show (3 : Nat) ≤ sizeLine; decide))) tgt_name (fun k (_ : Unit) => ([rBk K CB b pd sd s, cell ap (cTg tSt avs), cell pp (cTg (tPost K) pvs)], [some (tRf.is b), some (tRf.is ap), some (tRf.is pp), some (tInt.is (newest ps)), some (tSt.is c.n), none])) (fun _ _ => True) () trivial (fun σ H o => o.sb (by walk_at "sb")) (fun k _ day f hx _ => ?_) (fun _ _ σ H o => ?_))
    · refine go_if (et_of (ev_neD eqFr (evx_meth (r := rBk K CB b pd sd s) (z := (((b, pd, sd, s), c.n), c, day)) (bk_ob "balance_on" rfl) in0 (ev_var rfl) (ea_cons (ev_var rfl) (ea_cons (ev_var rfl) ea_nil)) rfl ⟨hacc, rl⟩ su0).ev (evx_call (z := ((pp, pvs, c.n, as), day)) (ea_cons (ev_var rfl) (ea_cons (ev_var rfl) (ea_cons (ev_var rfl) ea_nil))) hok su2).ev (lay_fr _) (lay_fr _) (by simp [eqFr]))) (fun h => ?_) (fun _ => go_next fun σ H o => ⟨(), trivial, o.sb (by walk_at "sb")⟩)
      exfalso
      rw [hps, onB_balOn, hrows] at h
      simp at h
    · dsimp only
      refine go_at o ?_
      refine go_if (et_of (ev_neD eqFr (evx_meth (r := rBk K CB b pd sd s) (z := (((b, pd, sd, s), c.n), c)) (bk_ob "balance" rfl) in0 (ev_var rfl) (ea_cons (ev_var rfl) ea_nil) rfl hacc su0).ev (evx_call (z := ((pp, pvs, c.n, as), newest ps)) (ea_cons (ev_var rfl) (ea_cons (ev_var rfl) (ea_cons (ev_var rfl) ea_nil))) hok su2).ev (lay_fr _) (lay_fr _) (by simp [eqFr]))) (fun h => ?_) (fun _ => go_next fun σ H o => ⟨(), trivial, o.sb (by walk_at "sb")⟩)
      exfalso
      have e1 : lastB c.rows = lastR (stmt ps c.n) := by rw [lastB_bare, ← hrows]; rfl
      have e2 : balOn (stmt ps c.n) (newest ps) = lastR (stmt ps c.n) := balOn_all fun r m => ((stmtN_ok hp.ok c.n ps.length (Nat.le_refl _)).2.1 r m).2.1
      rw [hps, e1, e2] at h
      simp at h
  · dsimp only
    refine go_at o ?_
    have l10 := hp.len
    have al : avs.length = as.length := by rw [← has, List.length_map]
    have dz : ∀ z, Dn 600000 (lastR (stmt ps z)) := fun z => (stmtN_ok hp.ok z ps.length (Nat.le_refl _)).2.2.mono (by omega)
    refine go_end (y := true) (ev_is (ev_eqD eqFr (ev_is (ev_call (z := (as.map fun z => lastR (stmt ps z) : List Rat)) (ea_cons (ev_is (ev_lcmR (K := K) (u := tFr K) (f := fun z => lastR (stmt ps z)) (r := cell ap (cTg tSt avs)) in1 (ivR_list in1 tg_says (ev_var rfl)) tgt_name (by simp) (by rw [has, sizeLine_eq]; omega) (fun D φ G z _ mz => ?_)) (by rw [has])) ea_nil) ⟨600000, fun r mr => ?_, ?_, by decide⟩) (zero_sum hp.ok)) (ev_frac (K := K) (r := 0) ev_int ev_int rfl rfl) (lay_fr _) (lay_fr _) (by simp [eqFr])) ?_) out (hC := fun c z => z)
    · rw [has] at mz
      obtain ⟨c, mc, rfl, hrows⟩ := hp.acc mz
      have e1 : lastB c.rows = lastR (stmt ps c.n) := by rw [lastB_bare, ← hrows]; rfl
      exact ev_is (evx_meth (r := rBk K CB b pd sd s) (z := (((b, pd, sd, s), c.n), c)) (bk_ob "balance" rfl) in1 (ev_var rfl) (ea_cons (ev_var rfl) ea_nil) rfl ⟨nds, mc, rfl⟩ su1).ev e1
    · obtain ⟨z, _, rfl⟩ := List.mem_map.mp mr
      exact dz z
    · rw [List.length_map]
      have : 600000 * as.length ≤ 600000 * 40 := Nat.mul_le_mul_left _ l10
      exact Nat.lt_of_le_of_lt this (by decide)
    · simp
end
end Cs
set_option maxHeartbeats 4000000
namespace Cs
open PySem PySem.Spec PyProof.Rows L2
local macro_rules | `(tactic| walk_at "rd") => `(tactic| (first
  | (refine ⟨_, rfl, ?_⟩)
  | (refine ⟨_, _, rfl, rfl, ?_⟩)
  | (refine .inl ⟨_, rfl, ?_⟩)
  | (refine .inr ⟨_, rfl, ?_⟩)
  | (refine ⟨_, _, _, _, rfl, rfl, SqL.of upd_same, rfl, ?_⟩)
  | (refine ⟨_, _, _, _, rfl, rfl, upd_same, rfl, ?_⟩)
  | (refine ⟨_, ?xs, _, ?v, rfl, rfl, ?h, ?x, ?_⟩; (case h => first | exact SqL.of (by assumption) | exact SqT.of (by assumption) | assumption); (case x => first | rfl | exact atI_nat (j := 0) rfl | exact atI_nat (j := 1) rfl))))
local macro_rules | `(tactic| walk_at "isi") => `(tactic| (first
  | (refine ⟨_, _, _, _, _, rfl, .ty _, .base (.int _), kit_ty kit_it, ?_⟩)
  | (refine ⟨_, _, _, _, _, rfl, .ty _, .base (.int _), kit_ty kit_ib, ?_⟩)
  | (refine ⟨_, _, _, _, _, rfl, .ty _, .base (.int _), kit_ty kit_ii, ?_⟩)
  | (refine ⟨_, _, _, _, _, rfl, .ty _, .base (.bl _), kit_ty kit_bt, ?_⟩)
  | (refine ⟨_, _, _, _, _, rfl, .ty _, .base (.bl _), kit_ty kit_bb, ?_⟩)
  | (refine ⟨_, _, _, _, _, rfl, .ty _, .base (.bl _), kit_ty kit_bi, ?_⟩)))
local macro_rules | `(tactic| walk_at "ev") => `(tactic| (first
  | exact ev_var rfl
  | exact ev_int
  | exact ev_str
  | exact ev_bl
  | exact ev_non
  | (refine ev_add ?_ ?_ <;> walk_at "ev")
  | (refine ev_sub ?_ ?_ <;> walk_at "ev")
  | (refine ev_mul ?_ ?_ ?_ <;> (try walk_at "ev"))
  | (refine ev_neg ?_ <;> walk_at "ev")
  | (refine ev_num ?_ <;> walk_at "ev")
  | (refine ev_den ?_ <;> walk_at "ev")
  | (refine ev_cmp ?_ ?_ <;> walk_at "ev")
  | (refine ev_eqI ?_ ?_ <;> walk_at "ev")
  | (refine ev_eqS ?_ ?_ <;> walk_at "ev")
  | (refine ev_neI ?_ ?_ <;> walk_at "ev")
  | (refine ev_neS ?_ ?_ <;> walk_at "ev")
  | (refine ev_inS ?_ ?_ <;> walk_at "ev")
  | (refine ev_niS ?_ ?_ <;> walk_at "ev")
  | (refine ev_len ?_ <;> walk_at "ev")
  | (refine ev_list ?_ <;> walk_at "ev")
  | (refine ev_listRev ?_ <;> walk_at "ev")
  | (refine ev_int1 ?_ <;> walk_at "ev")))
local macro_rules | `(tactic| walk_at "ea") => `(tactic| (first
  | exact ea_nil
  | (refine ea_cons ?_ ?_ <;> (first | walk_at "ev" | walk_at "ea" | skip))))
local macro_rules | `(tactic| walk_at "sb") => `(tactic| (first | exact True.intro | (refine And.intro rfl ?_; walk_at "sb")))
section
variable {P : Program} {w : World} {K : PySem.W.Frag} {mg : Str → Option Value} {base : Heap}
/-! ### what is told -/
def nmOk (z : Str) : Prop := z.cps.size ≤ 100 ∧ z.cps.toList.all (fun c => decide (c < 16 ^ 8)) = true
def dueSh : Due → Str
  | .day => reprText "day"
  | .acc z => (PyData.tuple [.str "account", .str z]).shown
  | .rest r => (PyData.tuple [.str "rest", .tuple [.int r.num, .int (r.den : Int)]]).shown
  | .num n => toString n
def dueOk : Due → Prop
  | .day => True
  | .acc z => nmOk z
  | .rest r => r.num.natAbs < 10 ^ 12 ∧ ((r.den : Int)).natAbs < 10 ^ 12
  | .num n => n.natAbs < 10 ^ 12
theorem log_small {i : Int} (h : i.natAbs < 10 ^ 12) : i.natAbs.log2 < 1920 := by
  by_cases z : i.natAbs = 0
  · rw [z]; decide
  · rw [Nat.log2_lt z]
    exact Nat.lt_trans h (Nat.lt_of_lt_of_le (by decide : 10 ^ 12 < 2 ^ 40) (Nat.pow_le_pow_right (by decide) (by decide)))
theorem wrt_due : Wrt K (tDue K) dueSh dueOk := ⟨fun {S H v x} r hx Q q => by
  cases x with
  | day =>
    obtain rfl : v = .str "day" := r
    exact .inr (.inr ⟨_, rfl, by decide +kernel, q⟩)
  | num n =>
    obtain rfl : v = .int n := r
    exact .inr (.inl ⟨n, rfl, log_small hx, q⟩)
  | acc z =>
    obtain ⟨p, a, b, rfl, s, rfl, rfl⟩ := (show ∃ p a b, v = .ref p ∧ SqT K (hid S H) p [a, b] ∧ a = .str "account" ∧ b = .str z from r)
    obtain ⟨h1, h2⟩ := (show nmOk z from hx)
    refine .inl ⟨_, .tuple [.str "account", .str z], rfl, .tup (sqT_mono hid_sub s) (.cons (.str _) (.cons (.str _) .nil)), ⟨p, rfl⟩, by simp [PyData.showable, PyData.showableAll], by simp [PyData.hasDict, PyData.hasDictAll], by simp [PyData.depth, PyData.depthAll], ?_, q⟩
    have := PyData.shown_le_bulk 13 (by decide) (.tuple [.str "account", .str z]) (by
      have e : (Str.ofString "account").cps.toList.all (fun c => decide (c < 16 ^ 8)) = true := by decide +kernel
      simp only [PyData.leavesShort, PyData.leavesShortAll, h2, Bool.and_true]
      exact e)
    have e7 : (Str.ofString "account").cps.size = 7 := by decide +kernel
    simp only [PyData.bulk, PyData.bulkAll, e7] at this
    rw [sizeLine_eq]
    omega
  | rest r' =>
    obtain ⟨p, a, b, rfl, s, rfl, ⟨p2, rfl, s2⟩⟩ := (show ∃ p a b, v = .ref p ∧ SqT K (hid S H) p [a, b] ∧ a = .str "rest" ∧ (tFr K).r (hid S H) b r' from r)
    obtain ⟨h1, h2⟩ := (show r'.num.natAbs < 10 ^ 12 ∧ ((r'.den : Int)).natAbs < 10 ^ 12 from hx)
    refine .inl ⟨_, .tuple [.str "rest", .tuple [.int r'.num, .int (r'.den : Int)]], rfl, .tup (sqT_mono hid_sub s) (.cons (.str _) (.cons (.tup (sqT_mono hid_sub s2) (.cons (.int _) (.cons (.int _) .nil))) .nil)), ⟨p, rfl⟩, ?_, by simp [PyData.hasDict, PyData.hasDictAll], by simp [PyData.depth, PyData.depthAll], ?_, q⟩
    · simp only [PyData.showable, PyData.showableAll, Bool.and_true, Bool.true_and, Bool.and_eq_true, decide_eq_true_eq]
      exact ⟨log_small h1, log_small h2⟩
    have := PyData.shown_le_bulk 13 (by decide) (.tuple [.str "rest", .tuple [.int r'.num, .int (r'.den : Int)]]) (by
      have e : (Str.ofString "rest").cps.toList.all (fun c => decide (c < 16 ^ 8)) = true := by decide +kernel
      simp only [PyData.leavesShort, PyData.leavesShortAll, Bool.and_true, Bool.and_eq_true, decide_eq_true_eq]
      exact ⟨e, PyData.shown_int_le h1, PyData.shown_int_le h2⟩)
    have e7 : (Str.ofString "rest").cps.size = 4 := by decide +kernel
    simp only [PyData.bulk, PyData.bulkAll, e7] at this
    rw [sizeLine_eq]
    omega⟩
structure ToldC (K : PySem.W.Frag) (mg : Str → Option Value) (CD CE CR CO : Addr) : Prop where
  gD : mg "InvalidDay" = some (.ref CD)
  gE : mg "UnknownAccount" = some (.ref CE)
  gR : mg "Unbalanced" = some (.ref CR)
  gO : mg "ConsolError" = some (.ref CO)
  xE : XfC K CE
  nE : PySem.W.findIn K (.ref CE) "name" = some none
  xR : XfC K CR
  nR : PySem.W.findIn K (.ref CR) "rest" = some none
  dd : PySem.W.exmOne K (.ref CD) (.ref CD) = some true
  ed : PySem.W.exmOne K (.ref CE) (.ref CD) = some false
  ee : PySem.W.exmOne K (.ref CE) (.ref CE) = some true
  rd : PySem.W.exmOne K (.ref CR) (.ref CD) = some false
  re : PySem.W.exmOne K (.ref CR) (.ref CE) = some false
  rr : PySem.W.exmOne K (.ref CR) (.ref CR) = some true
abbrev spPstU (K : PySem.W.Frag) (CB CD CE CR : Addr) : Sp := fun vs H Q E => spPstG K CB vs H Q E ∨ (spPstD K CB CD vs H Q E ∨ (spPstA K CB CE vs H Q E ∨ spPstR K CB CR vs H Q E))
structure ToldOk (x : PsgX) : Prop where
  g : PsgOk x
  lb : ∀ c ∈ x.1.2.2.2.accs, Sz 3000 (lastB c.rows)
  lp : x.1.2.2.2.posts.length ≤ 1000
  lr : ∀ c ∈ x.1.2.2.2.accs, c.rows.length ≤ 1000
def dueB (x : PsgX) : Due := due x.1.names (x.1.2.2.2.posts.map (·.2)) x.2.1 x.es
theorem day_iff {s : Bk} {day : Int} : (day < 0 ∨ (0 < (s.posts.map (·.2)).length ∧ day < (lastP (s.posts.map (·.2))).1)) ↔ (day < 0 ∨ day < lastDay s.posts) := by
  have e := newest_last (s := s) rfl
  rw [e]
  by_cases h : 0 < (s.posts.map (·.2)).length
  · rw [newest_lastP h]
    exact ⟨fun q => q.imp id (·.2), fun q => q.imp id fun z => ⟨h, z⟩⟩
  · have e0 : s.posts.map (·.2) = [] := List.length_eq_zero_iff.mp (by omega)
    rw [e0]
    have : newest [] = -1 := rfl
    rw [this]
    simp
    omega
def toldTo (K : PySem.W.Frag) (CB : Addr) (x : PsgX) (y : Due) (C' : List RS) : Prop := y = dueB x ∧ ((∃ n, y = .num n ∧ psgTo K CB x n C') ∨ ((∀ n, y ≠ .num n) ∧ C' = psgC K CB x))
abbrev spTold (K : PySem.W.Frag) (CB : Addr) : Sp := spS (psgC K CB) psgA (tDue K) ToldOk (toldTo K CB)
abbrev sLTold : Stmt := topS 26
theorem scLTold : FnScope ["books", "day", "entries", "error"] ["books", "day", "entries"] (defScope sLTold) := ⟨rfl, rfl, rfl, by decide +kernel, rfl, by decide +kernel, by decide +kernel⟩
theorem ok_told {f CB CD CE CR CO : Addr} {fd : FuncData} {k : Nat} (F : Fun K "_law_told" "_law_told" sLTold f fd) (BC : BkC K CB) (TX : ToldC K mg CD CE CR CO) (cx_post : CalMX P w K mg base k CB "post" ["self", "day", "entries"] (spPstU K CB CD CE CR)) : FnOk P w K mg base CX0 (k + 1) f fd ["books", "day", "entries"] (spTold K CB) := by
  refine ok_S F scLTold (fun _ => rfl) fun cdv A outer s0 H0 S x Q E hr hp al0 hMS out => ?_
  refine ⟨_, pss_one (ps_clauses (tb := fun W => tRet (tMethX CB "post" (spPstU K CB CD CE CR) (WE W) (tVar 0) (tCons (tVar 1) (tCons (tVar 2) tNil))))
      (l := [⟨.ref CD, none, fun _ _ _ => tRet (tC (.str "day"))⟩, ⟨.ref CE, some 3, fun a cls d => tRet (tTup (tCons (tC (.str "account")) (tCons (tXf a cls d CE "name" (tVar 3)) tNil)))⟩, ⟨.ref CR, some 3, fun a cls d => tRet (tTup (tCons (tC (.str "rest")) (tCons (tXf a cls d CR "rest" (tVar 3)) tNil)))⟩, ⟨.ref CO, none, fun _ _ _ => tRet (tC .non)⟩]) rfl rfl scLTold.nd takes0
      (fun W ps xe tk _ => pss_one (ps_ret (pe_calMS (pv 0) cx_post BC.cl hr (fun σ => passAt tk σ) (pa_cons (pv 1) (pa_cons (pv 2) pa_nil)))))
      (.plain ⟨rfl, by decide, .inl TX.gD⟩ (fun a ob cls d ps hz hf => pss_one (ps_ret pe_str)) (.named ⟨rfl, by decide, .inl TX.gE⟩ rfl rfl (fun a ob cls d ps hz hf => pss_one (ps_ret (pe_tup (pa_cons pe_str (pa_cons (pe_xf TX.xE TX.nE hz hf (pv 3)) pa_nil))))) (.named ⟨rfl, by decide, .inl TX.gR⟩ rfl rfl (fun a ob cls d ps hz hf => pss_one (ps_ret (pe_tup (pa_cons pe_str (pa_cons (pe_xf TX.xR TX.nR hz hf (pv 3)) pa_nil))))) (.plain ⟨rfl, by decide, .inl TX.gO⟩ (fun a ob cls d ps hz hf => pss_one (ps_ret pe_non)) .nil))))), ?_⟩
  obtain ⟨⟨b, pd, sd, s⟩, day, ep, vxs⟩ := x
  obtain ⟨⟨nd, le, sz⟩, lb, lp, lr⟩ := hp
  have fin : ∀ (W : Wd) σ H v y, W.H0 = H0 → W.M = fps (psgC K CB ((b, pd, sd, s), day, ep, vxs)) → W.L = psgC K CB ((b, pd, sd, s), day, ep, vxs) → W.S = S → Ok W σ H → (tDue K).r (hid S H) v y → y = dueB ((b, pd, sd, s), day, ep, vxs) → (∀ n, y ≠ .num n) → Q v H := by
    intro W σ H v y e1 e2 e3 e4 o r hy hn
    have h2 : toldTo K CB ((b, pd, sd, s), day, ep, vxs) y (psgC K CB ((b, pd, sd, s), day, ep, vxs)) := ⟨hy, .inr ⟨hn, rfl⟩⟩
    refine ends_S2 (W := W) (C' := psgC K CB ((b, pd, sd, s), day, ep, vxs)) o (by rw [e1]; exact out) (by rw [e4]; exact r) h2 (by rw [e4]; exact fun a m => m) (by rw [e3]) e2 (by rw [e1]; exact al0) hMS
  have hdue : dueB ((b, pd, sd, s), day, ep, vxs) = due (s.accs.map Acc.n) (s.posts.map (·.2)) day (vxs.map (·.2)) := rfl
  intro σ H o
  have slot3 : ∀ (a : Addr) (σ' : L2.St), σ'.length = 4 → (σ'.set 3 (some (V.ref a)))[3]? = some (some (V.ref a)) := fun a σ' h => by rw [List.getElem?_set, if_pos rfl, if_pos (by omega)]
  by_cases hday : day < 0 ∨ day < lastDay s.posts
  · have ed : dueB ((b, pd, sd, s), day, ep, vxs) = .day := by
      rw [hdue]
      unfold due
      rw [if_pos (day_iff.mpr hday)]
    refine (evx_methE0I (r := rBk K CB b pd sd s) (z := ((b, pd, sd, s), day, ep, vxs)) (w := tInt) (fun _ _ _ _ z => Or.inr (Or.inl z)) (bk_ob "post" rfl) in0 (ev_var rfl) (ea_cons (ev_var rfl) (ea_cons (ev_var rfl) ea_nil)) rfl ⟨⟨nd, le, sz⟩, hday⟩ (fun σ H' o' => ?_) (List.Sublist.refl _)) σ H o _ fun v x H' f => f.elim
    refine ⟨true, TX.dd, fun _ a na => ?_, fun h => by cases h⟩
    exact fin _ σ H' _ _ rfl rfl rfl rfl o' (show (tDue K).r (hid S H') (.str "day") .day from rfl) ed.symm (fun n h => by cases h)
  · have nday : 0 ≤ day ∧ lastDay s.posts ≤ day := by omega
    cases hbad : badOf (s.accs.map Acc.n) (vxs.map (·.2)) with
    | some z =>
      have ed : dueB ((b, pd, sd, s), day, ep, vxs) = .acc z := by
        rw [hdue]
        unfold due
        rw [if_neg (fun h => hday (day_iff.mp h)), hbad]
      refine (evx_methEI (r := rBk K CB b pd sd s) (z := (((b, pd, sd, s), day, ep, vxs), z)) (w := tInt) (fun _ _ _ _ z => Or.inr (Or.inr (Or.inl z))) (bk_ob "post" rfl) in0 (ev_var rfl) (ea_cons (ev_var rfl) (ea_cons (ev_var rfl) ea_nil)) rfl ⟨⟨nd, le, sz⟩, nday.1, nday.2, hbad⟩ (fun σ d fs H' o' hd hf => ?_) (List.Sublist.refl _)) σ H o _ fun v x H' f => f.elim
      refine ⟨false, TX.ed, (fun h => by cases h), fun _ => ⟨true, TX.ee, fun _ a na => ?_, fun h => by cases h⟩⟩
      obtain ⟨v, v1, v2⟩ := hf "name" (tSt.is z) (List.mem_cons_self ..)
      obtain rfl : v = .str z := v2
      refine ⟨.ref a, slot3 a σ o'.len, rfl, rfl, d, fs, .str z, rfl, hd, v1, by show 2 ≤ sizeLine; decide, fun p np => ?_⟩
      have g := o'.new (p := p) (o := .tup [.str "account", .str z]) np
      exact fin _ σ _ _ _ rfl rfl rfl rfl g.ok (show (tDue K).r (hid S _) (.ref p) (.acc z) from ⟨p, .str "account", .str z, rfl, SqT.of (by rw [hid_of (o'.off np)]; exact upd_same), rfl, rfl⟩) ed.symm (fun n h => by cases h)
    | none =>
      by_cases hz : rsum ((vxs.map (·.2)).map (·.2)) = 0
      · have ed : dueB ((b, pd, sd, s), day, ep, vxs) = .num ((s.posts.map (·.2)).length : Int) := by
          rw [hdue]
          unfold due
          rw [if_neg (fun h => hday (day_iff.mp h)), hbad]
          show (if rsum ((vxs.map (·.2)).map (·.2)) = 0 then _ else _) = _
          rw [if_pos hz]
        have kn : ∀ e ∈ vxs.map (·.2), e.1 ∈ s.accs.map Acc.n := fun e me => Decidable.byContradiction fun q => by
          obtain ⟨i, hi⟩ := List.getElem?_of_mem me
          unfold badOf at hbad
          rw [Option.map_eq_none_iff, List.find?_eq_none] at hbad
          have := hbad e me
          simp [q] at this
        have pok : PstOk ((b, pd, sd, s), day, vxs.map (·.2)) := ⟨nd, nday.1, nday.2, kn, le, sz, by show rsum ((sumsOf (vxs.map (·.2))).map (·.2)) = 0; rw [sums_total]; exact hz, lb, lp, lr⟩
        refine (evm_methXI (r := rBk K CB b pd sd s) (z := ((b, pd, sd, s), day, ep, vxs)) (R := []) (fun _ _ _ _ z => Or.inl z) (bk_ob "post" rfl) in0 (ev_var rfl) (ea_cons (ev_var rfl) (ea_cons (ev_var rfl) ea_nil)) rfl pok (by rw [List.append_nil])) σ H o _ fun v y W' H' hW o' r => ?_
        obtain ⟨N, C', hpost, rfl⟩ := hW
        obtain rfl : v = .int y := r
        have hy := hpost.1
        refine ends_S2 (y := Due.num y) (C' := C') o' out (show (tDue K).r _ (.int y) (.num y) from rfl) ⟨by rw [ed, hy]; show Due.num (s.posts.length : Int) = _; rw [List.length_map], .inl ⟨y, rfl, hpost⟩⟩ (fun a m => List.mem_append_right _ m) (by rw [List.append_nil]) rfl al0 hMS
      · have ed : dueB ((b, pd, sd, s), day, ep, vxs) = .rest (rsum ((vxs.map (·.2)).map (·.2))) := by
          rw [hdue]
          unfold due
          rw [if_neg (fun h => hday (day_iff.mp h)), hbad]
          show (if rsum ((vxs.map (·.2)).map (·.2)) = 0 then _ else _) = _
          rw [if_neg hz]
        refine (evx_methEI (r := rBk K CB b pd sd s) (z := ((b, pd, sd, s), day, ep, vxs)) (w := tInt) (fun _ _ _ _ z => Or.inr (Or.inr (Or.inr z))) (bk_ob "post" rfl) in0 (ev_var rfl) (ea_cons (ev_var rfl) (ea_cons (ev_var rfl) ea_nil)) rfl ⟨⟨nd, le, sz⟩, nday.1, nday.2, hbad, hz⟩ (fun σ d fs H' o' hd hf => ?_) (List.Sublist.refl _)) σ H o _ fun v x H' f => f.elim
        refine ⟨false, TX.rd, (fun h => by cases h), fun _ => ⟨false, TX.re, (fun h => by cases h), fun _ => ⟨true, TX.rr, fun _ a na => ?_, fun h => by cases h⟩⟩⟩
        obtain ⟨v, v1, v2⟩ := hf "rest" _ (List.mem_cons_self ..)
        refine ⟨.ref a, slot3 a σ o'.len, rfl, rfl, d, fs, v, rfl, hd, v1, by show 2 ≤ sizeLine; decide, fun p np => ?_⟩
        have g := o'.new (p := p) (o := .tup [.str "rest", v]) np
        exact fin _ σ _ _ _ rfl rfl rfl rfl g.ok (show (tDue K).r (hid S _) (.ref p) (.rest _) from ⟨p, .str "rest", v, rfl, SqT.of (by rw [hid_of (o'.off np)]; exact upd_same), rfl, (tFr K).mono g.up v2⟩) ed.symm (fun n h => by cases h)
end
end Cs
set_option maxHeartbeats 4000000
namespace Cs
open PySem PySem.Spec PyProof.Rows L2
local macro_rules | `(tactic| walk_at "rd") => `(tactic| (first
  | (refine ⟨_, rfl, ?_⟩)
  | (refine ⟨_, _, rfl, rfl, ?_⟩)
  | (refine .inl ⟨_, rfl, ?_⟩)
  | (refine .inr ⟨_, rfl, ?_⟩)
  | (refine ⟨_, _, _, _, rfl, rfl, SqL.of upd_same, rfl, ?_⟩)
  | (refine ⟨_, _, _, _, rfl, rfl, upd_same, rfl, ?_⟩)
  | (refine ⟨_, ?xs, _, ?v, rfl, rfl, ?h, ?x, ?_⟩; (case h => first | exact SqL.of (by assumption) | exact SqT.of (by assumption) | assumption); (case x => first | rfl | exact atI_nat (j := 0) rfl | exact atI_nat (j := 1) rfl))))
local macro_rules | `(tactic| walk_at "isi") => `(tactic| (first
  | (refine ⟨_, _, _, _, _, rfl, .ty _, .base (.int _), kit_ty kit_it, ?_⟩)
  | (refine ⟨_, _, _, _, _, rfl, .ty _, .base (.int _), kit_ty kit_ib, ?_⟩)
  | (refine ⟨_, _, _, _, _, rfl, .ty _, .base (.int _), kit_ty kit_ii, ?_⟩)
  | (refine ⟨_, _, _, _, _, rfl, .ty _, .base (.bl _), kit_ty kit_bt, ?_⟩)
  | (refine ⟨_, _, _, _, _, rfl, .ty _, .base (.bl _), kit_ty kit_bb, ?_⟩)
  | (refine ⟨_, _, _, _, _, rfl, .ty _, .base (.bl _), kit_ty kit_bi, ?_⟩)))
local macro_rules | `(tactic| walk_at "ev") => `(tactic| (first
  | exact ev_var rfl
  | exact ev_int
  | exact ev_str
  | exact ev_bl
  | exact ev_non
  | (refine ev_add ?_ ?_ <;> walk_at "ev")
  | (refine ev_sub ?_ ?_ <;> walk_at "ev")
  | (refine ev_mul ?_ ?_ ?_ <;> (try walk_at "ev"))
  | (refine ev_neg ?_ <;> walk_at "ev")
  | (refine ev_num ?_ <;> walk_at "ev")
  | (refine ev_den ?_ <;> walk_at "ev")
  | (refine ev_cmp ?_ ?_ <;> walk_at "ev")
  | (refine ev_eqI ?_ ?_ <;> walk_at "ev")
  | (refine ev_eqS ?_ ?_ <;> walk_at "ev")
  | (refine ev_neI ?_ ?_ <;> walk_at "ev")
  | (refine ev_neS ?_ ?_ <;> walk_at "ev")
  | (refine ev_inS ?_ ?_ <;> walk_at "ev")
  | (refine ev_niS ?_ ?_ <;> walk_at "ev")
  | (refine ev_len ?_ <;> walk_at "ev")
  | (refine ev_list ?_ <;> walk_at "ev")
  | (refine ev_listRev ?_ <;> walk_at "ev")
  | (refine ev_int1 ?_ <;> walk_at "ev")))
local macro_rules | `(tactic| walk_at "ea") => `(tactic| (first
  | exact ea_nil
  | (refine ea_cons ?_ ?_ <;> (first | walk_at "ev" | walk_at "ea" | skip))))
local macro_rules | `(tactic| walk_at "sb") => `(tactic| (first | exact True.intro | (refine And.intro rfl ?_; walk_at "sb")))
section
variable {P : Program} {w : World} {K : PySem.W.Frag} {mg : Str → Option Value} {base : Heap}
/-! ### opening by the law -/
structure OpX where
  b : BkX
  ap : Addr
  avs : List (V × Str)
  z : Str
abbrev OpX.as (x : OpX) : List Str := x.avs.map (·.2)
abbrev opC (K : PySem.W.Frag) (CB : Addr) (x : OpX) : List RS := [bkR K CB x.b, cell x.ap (cTg tSt x.avs)]
def opTo (K : PySem.W.Frag) (CB : Addr) (x : OpX) (y : Bool) (C' : List RS) : Prop := y = true ∧ (((x.z = "" ∨ x.z ∈ x.as) ∧ C' = opC K CB x) ∨ (¬ (x.z = "" ∨ x.z ∈ x.as) ∧ ∃ a v, C' = [rBk K CB x.b.1 x.b.2.1 x.b.2.2.1 (x.b.2.2.2.open_ x.z a), cell x.ap (cTg tSt (x.avs ++ [(v, x.z)]))]))
structure OpC (K : PySem.W.Frag) (mg : Str → Option Value) (CT CO : Addr) : Prop where
  gT : mg "AccountTaken" = some (.ref CT)
  gO : mg "ConsolError" = some (.ref CO)
  xT : XfC K CT
  nT : PySem.W.findIn K (.ref CT) "name" = some none
  tt : PySem.W.exmOne K (.ref CT) (.ref CT) = some true
abbrev spLOpen (K : PySem.W.Frag) (CB : Addr) : Sp := spS (opC K CB) (fun x => [tRf.is x.b.1, tRf.is x.ap, tSt.is x.z]) tBl (fun x => x.b.names = x.as ∧ x.as.length ≤ 900) (opTo K CB)
abbrev sLOpen : Stmt := topS 32
theorem scLOpen : FnScope ["books", "accounts", "name", "error"] ["books", "accounts", "name"] (defScope sLOpen) := ⟨rfl, rfl, rfl, by decide +kernel, rfl, by decide +kernel, by decide +kernel⟩
theorem ok_lopen {f CB CT CO : Addr} {fd : FuncData} {k : Nat} (F : Fun K "_law_open" "_law_open" sLOpen f fd) (BC : BkC K CB) (TX : OpC K mg CT CO) (cx_open : CalMX P w K mg base k CB "open_account" ["self", "name"] (spOpnU K CB CT)) : FnOk P w K mg base CX0 (k + 1) f fd ["books", "accounts", "name"] (spLOpen K CB) := by
  refine ok_S F scLOpen (fun _ => rfl) fun cdv A outer s0 H0 S x Q E hr hp al0 hMS out => ?_
  refine ⟨_, pss_cons (ps_clauses (tb := fun W => tDrop (tMethX CB "open_account" (spOpnU K CB CT) (WE W) (tVar 0) (tCons (tVar 2) tNil)))
      (l := [⟨.ref CT, some 3, fun a cls d => tRet (tAndV (tOp rEq (tXf a cls d CT "name" (tVar 3)) (tVar 2)) (tOrV (tOp (rIn K false) (tVar 2) (tVar 1)) (tOp rEq (tVar 2) (tC (.str "")))))⟩, ⟨.ref CO, none, fun _ _ _ => tRet (tC (.bl false))⟩]) rfl rfl scLOpen.nd takes0
      (fun W ps xe tk _ => pss_one (ps_expr (pe_calMS (pv 0) cx_open BC.cl hr (fun σ => passAt tk σ) (pa_cons (pv 2) pa_nil))))
      (.named ⟨rfl, by decide, .inl TX.gT⟩ rfl rfl (fun a ob cls d ps hz hf => pss_one (ps_ret (pe_and (pe_cmpR op_eq (pe_xf TX.xT TX.nT hz hf (pv 3)) (pv 2) (nomark _)) (pe_one (pe_or (pe_cmpR op_in_seq (pv 2) (pv 1) (by rfl)) (pe_one (pe_cmpR op_eq (pv 2) pe_str (nomark _)))))))) (.plain ⟨rfl, by decide, .inl TX.gO⟩ (fun a ob cls d ps hz hf => pss_one (ps_ret pe_bl)) .nil)))
      (pss_cons (ps_if (PW.pt (pw_or (pt_cmpR op_in_seq (pv 2) (pv 1) (by rfl)) (pw_or1 (pt_cmpR op_eq (pv 2) pe_str (nomark _))))) (pss_one (ps_ret pe_bl)) pss_nil)
      (pss_cons (ps_expr (pe_bm PySem.F.plainAttrs_list PySem.F.slot_list_append PySem.F.type_list_append mt_append (pv 1) (pa_cons (pv 2) pa_nil)))
      (pss_one (ps_ret pe_bl)))), ?_⟩
  obtain ⟨⟨b, pd, sd, s⟩, ap, avs, z⟩ := x
  obtain ⟨hn, hl⟩ := hp
  have hn : s.accs.map Acc.n = avs.map (·.2) := hn
  have hl : (avs.map (·.2)).length ≤ 900 := hl
  refine go_seq fun σ H o => ?_
  by_cases ht : z = "" ∨ z ∈ avs.map (·.2)
  · have hp : z = "" ∨ z ∈ s.accs.map Acc.n := by rw [hn]; exact ht
    refine (evx_methEI (r := rBk K CB b pd sd s) (z := ((b, pd, sd, s), z)) (w := tNn) (fun _ _ _ _ z => Or.inr z) (bk_ob "open_account" rfl) in0 (ev_var rfl) (ea_cons (ev_var rfl) ea_nil) rfl hp (fun σ d fs H' o' hd hf => ?_) su0) σ H o _ fun v x H' f => f.elim
    refine ⟨true, TX.tt, fun _ a na => ?_, fun h => by cases h⟩
    obtain ⟨v, v1, v2⟩ := hf "name" (tSt.is z) (List.mem_cons_self ..)
    obtain rfl : v = .str z := v2
    obtain ⟨u, u1, u2⟩ := o'.slots 2 (tSt.is z) rfl
    obtain rfl : u = .str z := u2
    have len : σ.length = 4 := o'.len
    have o2 := o'.put (i := 3) (v := .ref a) (f := tRf.is a) rfl
    refine ⟨.ref a, by rw [List.getElem?_set, if_pos rfl, if_pos (by omega)], rfl, rfl, d, fs, .str z, rfl, hd, v1, .str z, by rw [List.getElem?_set, if_neg (by decide)]; exact u1, rfl, true, by simp [eqV], ?_⟩
    refine (ev_orV (ev_inSR (r := cell ap (cTg tSt avs)) in1 tg_says (ev_var rfl) (ev_var rfl)) (fun _ => ev_eqS (ev_var rfl) ev_str)) _ H' o2 _ fun w H2 g2 r2 => ?_
    have e1 : (decide (z ∈ avs.map (·.2)) || decide (z = "")) = true := by
      rcases ht with h | h
      · simp [h]
      · simp [h]
    rw [e1] at r2
    have h2 : opTo K CB ⟨(b, pd, sd, s), ap, avs, z⟩ true (opC K CB ⟨(b, pd, sd, s), ap, avs, z⟩) := ⟨rfl, .inl ⟨ht, rfl⟩⟩
    exact ends_S2 (C' := opC K CB ⟨(b, pd, sd, s), ap, avs, z⟩) g2.ok out r2 h2 (fun a m => m) (List.Perm.refl _) rfl al0 hMS
  · have hpre : z ≠ "" ∧ z ∉ s.accs.map Acc.n ∧ (s.accs.map Acc.n).length ≤ 1000 := by
      rw [hn]
      exact ⟨fun e => ht (.inl e), fun m => ht (.inr m), by omega⟩
    refine (evm_methXI (r := rBk K CB b pd sd s) (z := ((b, pd, sd, s), z)) (R := [cell ap (cTg tSt avs)]) (fun _ _ _ _ z => Or.inl z) (bk_ob "open_account" rfl) in0 (ev_var rfl) (ea_cons (ev_var rfl) ea_nil) rfl hpre (List.Perm.refl _)) σ H o _ fun v y W' H' hW o' r => ?_
    obtain ⟨N, C', ⟨a, rfl⟩, rfl⟩ := hW
    dsimp only at o' ⊢
    refine go_at o' ?_
    refine go_ifr (et_or (et_of (ev_inSR (r := cell ap (cTg tSt avs)) in1 tg_says (ev_var rfl) (ev_var rfl))) (fun _ => et_of (ev_eqS (ev_var rfl) ev_str))) (fun h => ?_) (fun _ => ?_)
    · exfalso
      simp only [Bool.or_eq_true, decide_eq_true_eq] at h
      exact ht h.symm
    refine go_appT (t := tSt) (x := z) (p := ap) (R := [rBk K CB b pd sd (s.open_ z a)]) (List.Perm.swap ..) (ev_var rfl) (ev_var rfl) (by rw [List.length_map] at hl; rw [sizeLine_eq]; omega) fun v => ?_
    intro σ2 H2 o2
    refine ev_bl (b := true) σ2 H2 o2 _ fun w H3 g3 r3 => ?_
    have h2 : opTo K CB ⟨(b, pd, sd, s), ap, avs, z⟩ true [rBk K CB b pd sd (s.open_ z a), cell ap (cTg tSt (avs ++ [(v, z)]))] := ⟨rfl, .inr ⟨ht, a, v, rfl⟩⟩
    exact ends_S2 (C' := [rBk K CB b pd sd (s.open_ z a), cell ap (cTg tSt (avs ++ [(v, z)]))]) g3.ok out r3 h2 (fun a m => List.mem_append_right _ m) (List.Perm.swap ..) rfl al0 hMS
/-! ### entries -/
def five5 : List Str := ["ann", "bob", "the world", "cy", "nobody"]
structure EsOk (es : List (Str × Rat)) : Prop where
  l : es.length ≤ 4
  d : ∀ e ∈ es, Dn 5000 e.2
  n : ∀ e ∈ es, e.1 ∈ five5
abbrev spLEn (K : PySem.W.Frag) : Sp := spN (fun x : Addr × Addr × List Int => [cell x.1 (cSt K x.1 x.2.1 x.2.2)]) (fun x => [tRf.is x.1]) (tLs K (tEn K)) (fun _ => True) (fun _ es => EsOk es)
abbrev sLEn : Stmt := topS 33
theorem scLEn : FnScope ["state", "entries", "_law_turn", "name", "rest", "amount"] ["state"] (defScope sLEn) := ⟨rfl, rfl, rfl, by decide +kernel, rfl, by decide +kernel, by decide +kernel⟩
theorem ok_len {f : Addr} {fd : FuncData} {k : Nat} (F : Fun K "_law_entries" "_law_entries" sLEn f fd) (c_law_draw : Cal P w K mg base k "_law_draw" ["state", "many"] (spDrawSA K)) (c_law_fraction : Cal P w K mg base k "_law_fraction" ["state"] (spLFracD K)) (c_law_sum : Cal P w K mg base k "_law_sum" ["values"] (spLSum K)) (c_law_minus : Cal P w K mg base k "_law_minus" ["a", "b"] (spLMinus K)) (z_range : mg "range" = none) (z_int : mg "int" = none) : FnOk P w K mg base CX0 (k + 1) f fd ["state"] (spLEn K) := by
  refine ok_N F scLEn (fun _ => rfl) fun cdv A outer s0 H0 S x Q E hr hp out => ⟨_, (pss_cons (ps_set (i := 1) scLEn.nd rfl (Or.inl rfl) (pe_lst pa_nil))
      (pss_cons (ps_for PassesOwn.never rfl (pi_range1 rfl z_range (pa_cons (pe_cal c_law_draw hr (by rfl) (pa_cons (pv 0) (pa_cons pe_int pa_nil))) pa_nil)) (pg_name (i := 2) scLEn.nd rfl (Or.inl rfl)) (pss_cons (ps_set (i := 3) scLEn.nd rfl (Or.inl rfl) (pe_ix ix_list (pe_lst (pa_cons pe_str (pa_cons pe_str (pa_cons pe_str (pa_cons pe_str (pa_cons pe_str pa_nil)))))) (pe_cal c_law_draw hr (by rfl) (pa_cons (pv 0) (pa_cons (pe_op op_add pe_int (pe_callTy call_int1 (by rfl) z_int (by decide +kernel) (pa_cons (pe_cmpR op_eq (pe_cal c_law_draw hr (by rfl) (pa_cons (pv 0) (pa_cons pe_int pa_nil))) pe_int (nomark _)) pa_nil))) pa_nil))) (fun _ _ => rfl)))
      (pss_one (ps_expr (pe_bm PySem.F.plainAttrs_list PySem.F.slot_list_append PySem.F.type_list_append mt_append (pv 1) (pa_cons (pe_tup (pa_cons (pv 3) (pa_cons (pe_cal c_law_fraction hr (by rfl) (pa_cons (pv 0) pa_nil)) pa_nil))) pa_nil))))))
      (pss_cons (ps_if (pt_cmpR op_gt (pe_cal c_law_draw hr (by rfl) (pa_cons (pv 0) (pa_cons pe_int pa_nil))) pe_int (nomark _)) (pss_cons (ps_set (i := 4) scLEn.nd rfl (Or.inl rfl) (pe_cal c_law_sum hr (by rfl) (pa_cons (pe_lc (own := [("name", 3), ("amount", 5)]) (g := gTup K 2 (gCons (gName 3) (gCons (gName 5) gNil))) (tt := tYes) rfl scLEn.nd (pi_list (pv 1)) (blkOk_by (own := [("name", 3), ("amount", 5)]) (N := ["state", "entries", "_law_turn", "name", "rest", "amount"]) (sc := defScope sLEn) (by decide +kernel)) (fun _ _ _ _ _ => (pg_tup rfl (pgs_cons (pg_name (i := 3) scLEn.nd rfl (Or.inl rfl)) (pgs_cons (pg_name (i := 5) scLEn.nd rfl (Or.inl rfl)) pgs_nil)))) (fun _ _ _ _ _ => pts_nil) (fun _ _ _ _ _ => (pv 5))) pa_nil)))
      (pss_one (ps_expr (pe_bm PySem.F.plainAttrs_list PySem.F.slot_list_append PySem.F.type_list_append mt_append (pv 1) (pa_cons (pe_tup (pa_cons pe_str (pa_cons (pe_cal c_law_minus hr (by rfl) (pa_cons (pe_tup (pa_cons pe_int (pa_cons pe_int pa_nil))) (pa_cons (pv 4) pa_nil))) pa_nil))) pa_nil))))) pss_nil)
      (pss_one (ps_ret (pv 1)))))), ?_⟩
  obtain ⟨d, l, ns⟩ := x
  have out : Rt [cell d (cSt K d l ns)] S H0 (tLs K (tEn K)) EsOk Q := out
  refine go_ms fun hMS => ?_
  refine go_newT (tEn K) fun p np => ?_
  refine go_seq (go_forx (ivx_range1 (evx_drawS (K := K) (d := d) (l := l) (ns := ns) rfl in1 ev_int (by decide) (lt8 (by decide))) (fun n h => ⟨by omega, by omega⟩)) tgt_name
      (fun k (es : List (V × (Str × Rat))) => ([cell p (cTg (tEn K) es), cell d (cSt K d l ns)], [some (tRf.is d), some (tRf.is p), none, none, none, none]))
      (fun k es => es.length = k ∧ (∀ e ∈ es, Dn 1440 e.2.2) ∧ ∀ e ∈ es, e.2.1 ∈ five5) [] ⟨rfl, (fun e m => nomatch m), (fun e m => nomatch m)⟩ (fun σ H o => o.sb (by walk_at "sb")) (fun xs k es x f hX hx hk => ?_) (fun xs es hX hk σ H o => ?_))
  · obtain ⟨n1, ⟨_, n4⟩, rfl⟩ := hX
    obtain ⟨k1, k2, k3⟩ := hk
    have k4 : k < 4 := by
      have := (List.getElem?_eq_some_iff.mp hx).1
      rw [List.length_map, List.length_range] at this
      omega
    refine go_setx (evx_ixL (K := K) (t := tSt) (xs := five5) (R := fun z => z ∈ five5) (ev_lst (K := K) (xs := five5) (el_cons ev_str (el_cons ev_str (el_cons ev_str (el_cons ev_str (el_cons ev_str el_nil))))) (by show (5 : Nat) ≤ sizeLine; decide)) (evx_drawSx (K := K) (d := d) (l := l) (ns := ns) rfl in1 (evx_add (Ev.xe ev_int) (evx_intB (evx_eqI (evx_drawS (K := K) (d := d) (l := l) (ns := ns) rfl in1 ev_int (by decide) (lt8 (by decide))) ev_int))) ?_) ?_) fun z hz => ?_
    · rintro m ⟨i, j, rfl, ⟨b, _, rfl⟩, rfl⟩
      cases b
      · exact ⟨by decide, lt8 (by decide)⟩
      · exact ⟨by decide, lt8 (by decide)⟩
    · rintro n ⟨m, ⟨i, j, rfl, ⟨b, _, rfl⟩, rfl⟩, h0, h1⟩
      have h5 : n.toNat < five5.length := by
        show n.toNat < 5
        cases b
        · have : n < 4 + 0 := h1
          omega
        · have : n < 4 + 1 := h1
          omega
      refine ⟨five5[n.toNat], List.getElem_mem h5, ?_⟩
      have := atI_nat (List.getElem?_eq_getElem h5)
      rwa [Int.toNat_of_nonneg h0] at this
    refine go_app1Tx (t := tEn K) (p := p) (R := [cell d (cSt K d l ns)]) (P := fun e => Dn 1440 e.2 ∧ e.1 ∈ five5) (List.Perm.refl _) (ev_var rfl) ?_ (by rw [k1, sizeLine_eq]; omega) fun v e he σ H o => ⟨es ++ [(v, e)], ⟨by rw [List.length_append, List.length_singleton]; omega, fun e' m => ?_, fun e' m => ?_⟩, o.sb (by walk_at "sb")⟩
    · exact evx_pr1 (ev_var rfl) (evx_call (z := (d, l, ns)) (ea_cons (ev_var rfl) ea_nil) trivial su1) (fun r hr => ⟨hr, hz⟩)
    · rcases List.mem_append.mp m with m | m
      · exact k2 e' m
      · rw [List.mem_singleton.mp m]; exact he.1
    · rcases List.mem_append.mp m with m | m
      · exact k3 e' m
      · rw [List.mem_singleton.mp m]; exact he.2
  · obtain ⟨n1, ⟨_, n4⟩, rfl⟩ := hX
    obtain ⟨k1, k2, k3⟩ := hk
    have k4 : es.length ≤ 3 := by
      rw [k1, List.length_map, List.length_range]
      omega
    have dsum : Dn (1440 * 3) (rsum ((es.map (·.2)).map (·.2))) := (rsum_dn (n := 1440) fun r m => by
      obtain ⟨e, me, rfl⟩ := List.mem_map.mp m
      obtain ⟨q, mq, rfl⟩ := List.mem_map.mp me
      exact k2 q mq).mono (Nat.mul_le_mul_left _ (by rw [List.length_map, List.length_map]; exact k4))
    have k2' : ∀ e ∈ es.map (·.2), Dn 1440 e.2 := fun e m => by
      obtain ⟨q, mq, rfl⟩ := List.mem_map.mp m
      exact k2 q mq
    have k3' : ∀ e ∈ es.map (·.2), e.1 ∈ five5 := fun e m => by
      obtain ⟨q, mq, rfl⟩ := List.mem_map.mp m
      exact k3 q mq
    dsimp only
    refine go_at o ?_
    refine go_ifj (fun (es : List (V × (Str × Rat))) => ⟨H0, fps [cell d (cSt K d l ns)], p :: S, [cell p (cTg (tEn K) es), cell d (cSt K d l ns)], [], [some (tRf.is d), some (tRf.is p), none, none, none, none]⟩) (fun es => EsOk (es.map (·.2))) (etx_cmp (evx_drawS (K := K) (d := d) (l := l) (ns := ns) rfl in1 ev_int (by decide) (lt8 (by decide))) ev_int) (fun _ nx hnx => ?_) (fun _ => ⟨es, ⟨by rw [List.length_map]; omega, fun e m => (k2' e m).mono (by decide), k3'⟩, fun σ H o => o.sb (by walk_at "sb")⟩) (fun es' hes => ?_)
    · refine go_set (x := rsum ((es.map (·.2)).map (·.2))) (ev_is (ev_call (z := ((es.map (·.2)).map (·.2) : List Rat)) (ea_cons (ev_lcmR (K := K) (f := fun e : Str × Rat => e.2) (r := cell p (cTg (tEn K) es)) in0 (ivR_list in0 tg_says (ev_var rfl)) tgt_pair (by simp) (by rw [List.length_map, sizeLine_eq]; omega) (fun _ _ _ x _ xm => ev_var rfl)) ea_nil) ⟨1440, fun r mr => ?_, by rw [List.length_map, List.length_map]; omega, by decide⟩) rfl) ?_
      · obtain ⟨e, me, rfl⟩ := List.mem_map.mp mr
        exact k2' e me
      refine go_app1T (t := tEn K) (x := (("ann" : Str), 0 - rsum ((es.map (·.2)).map (·.2)))) (p := p) (R := [cell d (cSt K d l ns)]) (List.Perm.refl _) (ev_var rfl) (ev_pr ev_str (ev_is (ev_call (z := (0, rsum ((es.map (·.2)).map (·.2)))) (ea_cons (ev_frac (K := K) (r := 0) ev_int ev_int rfl rfl) (ea_cons (ev_var rfl) ea_nil)) ⟨sz_zero (by decide), dsum.big (by decide)⟩) rfl)) (by rw [sizeLine_eq]; omega) rfl fun v σ H o => hnx (es ++ [(v, (("ann" : Str), 0 - rsum ((es.map (·.2)).map (·.2))))]) ?_ σ H (o.sb (by walk_at "sb"))
      show EsOk ((es ++ [(v, ((("ann" : Str), 0 - rsum ((es.map (·.2)).map (·.2))) : Str × Rat))]).map (·.2))
      rw [List.map_append]
      refine ⟨?_, fun e m => ?_, fun e m => ?_⟩
      · rw [List.length_append, List.length_map]
        show es.length + 1 ≤ 4
        omega
      · rcases List.mem_append.mp m with m | m
        · exact (k2' e m).mono (by decide)
        · rw [List.mem_singleton.mp m]; exact dsum.neg.mono (by decide)
      · rcases List.mem_append.mp m with m | m
        · exact k3' e m
        · rw [List.mem_singleton.mp m]; show (Str.ofString "ann") ∈ five5; decide
    · refine go_frzT (K := K) (i := 1) (t := tEn K) rfl hMS np (fun a m => hMS a m) ?_
      exact go_end (y := es'.map (·.2)) (ev_var rfl) out hes (hC := fun c z => z) (hS := fun a m => m)
end
end Cs
set_option maxHeartbeats 4000000
namespace Cs
open PySem PySem.Spec PyProof.Rows L2
local macro_rules | `(tactic| walk_at "rd") => `(tactic| (first
  | (refine ⟨_, rfl, ?_⟩)
  | (refine ⟨_, _, rfl, rfl, ?_⟩)
  | (refine .inl ⟨_, rfl, ?_⟩)
  | (refine .inr ⟨_, rfl, ?_⟩)
  | (refine ⟨_, _, _, _, rfl, rfl, SqL.of upd_same, rfl, ?_⟩)
  | (refine ⟨_, _, _, _, rfl, rfl, upd_same, rfl, ?_⟩)
  | (refine ⟨_, ?xs, _, ?v, rfl, rfl, ?h, ?x, ?_⟩; (case h => first | exact SqL.of (by assumption) | exact SqT.of (by assumption) | assumption); (case x => first | rfl | exact atI_nat (j := 0) rfl | exact atI_nat (j := 1) rfl))))
local macro_rules | `(tactic| walk_at "isi") => `(tactic| (first
  | (refine ⟨_, _, _, _, _, rfl, .ty _, .base (.int _), kit_ty kit_it, ?_⟩)
  | (refine ⟨_, _, _, _, _, rfl, .ty _, .base (.int _), kit_ty kit_ib, ?_⟩)
  | (refine ⟨_, _, _, _, _, rfl, .ty _, .base (.int _), kit_ty kit_ii, ?_⟩)
  | (refine ⟨_, _, _, _, _, rfl, .ty _, .base (.bl _), kit_ty kit_bt, ?_⟩)
  | (refine ⟨_, _, _, _, _, rfl, .ty _, .base (.bl _), kit_ty kit_bb, ?_⟩)
  | (refine ⟨_, _, _, _, _, rfl, .ty _, .base (.bl _), kit_ty kit_bi, ?_⟩)))
local macro_rules | `(tactic| walk_at "ev") => `(tactic| (first
  | exact ev_var rfl
  | exact ev_int
  | exact ev_str
  | exact ev_bl
  | exact ev_non
  | (refine ev_add ?_ ?_ <;> walk_at "ev")
  | (refine ev_sub ?_ ?_ <;> walk_at "ev")
  | (refine ev_mul ?_ ?_ ?_ <;> (try walk_at "ev"))
  | (refine ev_neg ?_ <;> walk_at "ev")
  | (refine ev_num ?_ <;> walk_at "ev")
  | (refine ev_den ?_ <;> walk_at "ev")
  | (refine ev_cmp ?_ ?_ <;> walk_at "ev")
  | (refine ev_eqI ?_ ?_ <;> walk_at "ev")
  | (refine ev_eqS ?_ ?_ <;> walk_at "ev")
  | (refine ev_neI ?_ ?_ <;> walk_at "ev")
  | (refine ev_neS ?_ ?_ <;> walk_at "ev")
  | (refine ev_inS ?_ ?_ <;> walk_at "ev")
  | (refine ev_niS ?_ ?_ <;> walk_at "ev")
  | (refine ev_len ?_ <;> walk_at "ev")
  | (refine ev_list ?_ <;> walk_at "ev")
  | (refine ev_listRev ?_ <;> walk_at "ev")
  | (refine ev_int1 ?_ <;> walk_at "ev")))
local macro_rules | `(tactic| walk_at "ea") => `(tactic| (first
  | exact ea_nil
  | (refine ea_cons ?_ ?_ <;> (first | walk_at "ev" | walk_at "ea" | skip))))
local macro_rules | `(tactic| walk_at "sb") => `(tactic| (first | exact True.intro | (refine And.intro rfl ?_; walk_at "sb")))
section
variable {P : Program} {w : World} {K : PySem.W.Frag} {mg : Str → Option Value} {base : Heap}
/-! ### postings given anew: lists that nobody else holds -/
theorem bk_same {CB : Addr} {x : BkX} {F H H' : Hp} (e : Same H H') (h : (bkR K CB x).p F H) : (bkR K CB x).p F H' := by
  obtain ⟨⟨dx, h1⟩, ⟨h2, h3⟩, h4, h5⟩ := h
  exact ⟨⟨dx, e _ _ h1⟩, ⟨e _ _ h2, h3⟩, e _ _ h4, fun c m => ⟨e _ _ (h5 c m).1, (h5 c m).2⟩⟩
def tBkV (K : PySem.W.Frag) (CB : Addr) : Ty BkX := ⟨fun H v x => v = .ref x.1 ∧ (bkR K CB x).p H H, fun e ⟨h1, h2⟩ => ⟨h1, bk_same e ((bkR K CB _).mono e h2)⟩⟩
abbrev tPsN (G : Hp) (K : PySem.W.Frag) : Ty (List Post) := tLsH (tPr K tInt (tNw G (tEn K)))
abbrev spPosN (K : PySem.W.Frag) (CB : Addr) : Sp := fun vs H Q E => spN (fun _ : BkX => []) (fun x => [(tBkV K CB).is x]) (tPsN H K) (fun x => x.2.2.2.posts.length ≤ 1000) (fun x y => y = x.2.2.2.posts.map (·.2)) vs H Q E
theorem ok_postingsN {f CB : Addr} {fd : FuncData} {k : Nat} (F : Fun K "postings" "Books.postings" sBPos f fd) (BC : BkC K CB) (z_list : mg "list" = none) : FnOk P w K mg base CX0 (k + 1) f fd ["self"] (spPosN K CB) := by
  refine ok_NH F scBPos (fun _ => rfl) fun cdv A outer s H0 S x Q E hr hp out => ⟨_, (pss_one (ps_ret (pe_lc (own := [("day", 1), ("entries", 2)]) (g := gTup K 2 (gCons (gName 1) (gCons (gName 2) gNil))) (tt := tYes) rfl scBPos.nd (pi_list (pe_fld (pv 0) rfl)) (blkOk_by (own := [("day", 1), ("entries", 2)]) (N := ["self", "day", "entries"]) (sc := defScope sBPos) (by decide +kernel)) (fun _ _ _ _ _ => (pg_tup rfl (pgs_cons (pg_name (i := 1) scBPos.nd rfl (Or.inl rfl)) (pgs_cons (pg_name (i := 2) scBPos.nd rfl (Or.inl rfl)) pgs_nil)))) (fun _ _ _ _ _ => pts_nil) (fun _ _ _ _ _ => (pe_tup (pa_cons (pv 1) (pa_cons (pe_callTy (call_list_ofK (K := K) rfl) (by rfl) z_list (by decide +kernel) (pa_cons (pv 2) pa_nil)) pa_nil))))))), ?_⟩
  obtain ⟨b, pd, sd, s⟩ := x
  have hl : s.posts.length ≤ 1000 := hp
  have pe : Ev ⟨H0, fps [], S, [], [], [some ((tBkV K CB).is (b, pd, sd, s)), none, none]⟩ (tFld K (tVar 0) "posted") (tLs K (tPost K)) (s.posts.map (·.2)) := fun σ H o Q q => by
    obtain ⟨v, h1, h2, h3⟩ := o.slots 0 _ rfl
    obtain rfl : v = .ref b := h2
    obtain ⟨⟨dx, k1⟩, ⟨k2, k3⟩, _⟩ := h3
    exact ⟨.ref b, h1, b, CB, dx, _, .ref pd, rfl, hid_sub _ _ k1, BC.cl, BC.n0, rfl, q _ H (Go1.refl o) ⟨pd, _, rfl, k2, all2_tags k3⟩⟩
  refine go_end (y := s.posts.map (·.2)) (ev_is (ev_lcmH (u := tPr K tInt (tNw H0 (tEn K))) (f := fun x : Post => (x.1, x.2)) (iv_list (t := tPost K) pe) tgt_pair (by simp) (by rw [List.length_map, sizeLine_eq]; omega) (fun _ _ _ x _ xm => ev_pr (ev_var rfl) (ev_listNw (ev_var rfl)))) ?_) out (hC := fun c z => z)
  exact List.map_id' _
/-- the lists that were given grow; nothing else changes -/
theorem go_grow {W : Wd} {CB b pd sd : Addr} {s : Bk} {E : XK} {D : Ends} (hr : rBk K CB b pd sd s ∈ W.L) (hs : W.G[2]? = some (some (tRf.is b))) (hl : s.posts.length ≤ 1000) (h4 : ∀ p ∈ s.posts.map (·.2), p.2.length ≤ 4) (hd : ∀ σ H, Ok { W with G := W.G.set 11 none } σ H → D.nx σ H) (hG : 11 < W.G.length) :
    Go W (tFor (iList K (tMeth CB "postings" (spPosN K CB) [] E (tVar 2) tNil)) (gName 11) (tDrop (tBM K "list" rAppend (tOp (rIxT K) (tVar 11) (tC (.int 1))) (tCons (tTup (tCons (tC (.str "ann")) (tCons (tTup (tCons (tC (.int 1)) (tCons (tC (.int 1)) tNil))) tNil))) tNil)))) D := fun σ H o => by
  obtain ⟨v0, s1, rfl⟩ := o.slots 2 _ hs
  have rb := o.at_ _ hr
  obtain ⟨⟨dx, h1⟩, _⟩ := id rb
  refine ⟨.ref b, s1, b, dx, _, rfl, h1, rfl, ?_⟩
  have fpS : ∀ a, a ∈ (rBk K CB b pd sd s).fp → a ∈ W.S := fun a m => (o.own a (mem_fps hr m)).1
  have vis : (bkR K CB (b, pd, sd, s)).p (hid (W.S.filter fun a => decide (a ∉ (rBk K CB b pd sd s).fp)) H) (hid (W.S.filter fun a => decide (a ∉ (rBk K CB b pd sd s).fp)) H) := by
    refine (rBk K CB b pd sd s).loc (H := H) (fun a m => hid_of fun z => ?_) ((rBk K CB b pd sd s).mono (hid_less fun a m => (List.mem_filter.mp m).1) rb)
    exact absurd m (of_decide_eq_true (List.mem_filter.mp z).2)
  refine ⟨W.S.filter fun a => decide (a ∉ (rBk K CB b pd sd s).fp), (b, pd, sd, s), fun a m => o.al a (List.mem_filter.mp m).1, List.nodup_nil, (fun a m => nomatch m), (fun r m => nomatch m), ⟨⟨rfl, vis⟩, trivial⟩, hl, fun v y H1 hy bt _ _ r => ?_⟩
  obtain rfl : y = s.posts.map (·.2) := hy
  have up : Same H H1 := bt.same
  obtain ⟨l, vs, rfl, hlv, al⟩ := r
  have hlv := hid_sub _ _ hlv
  have al : All2 (fun v (x : Post) => ∃ t q ws, v = .ref t ∧ SqT K H1 t [.int x.1, .ref q] ∧ H1 q = some (.lst ws) ∧ ws.length = x.2.length ∧ H q = none ∧ q ≠ l) vs (s.posts.map (·.2)) := All2.mono (fun v x ⟨t, a, c, e, sq, e1, q, ws, e2, e3, e4, e5⟩ => by
    subst e2
    obtain rfl : a = .int x.1 := e1
    refine ⟨t, q, ws, e, sqT_mono hid_sub (sqT_mono hid_sub sq), hid_sub _ _ (hid_sub _ _ e3), e4.length, e5, fun z => ?_⟩
    rw [z] at e3
    unfold hid at e3
    rw [if_pos (List.mem_singleton.mpr rfl)] at e3
    cases e3) al
  -- the lists that grow
  let Qs : Addr → Prop := fun a => ∃ (t : Addr) (x : Post) (ws : List V), x ∈ s.posts.map (·.2) ∧ H1 a = some (.lst ws) ∧ ws.length = x.2.length ∧ H a = none ∧ a ≠ l
  refine ⟨l, rfl, ⟨vs, SqL.of hlv⟩, ?_⟩
  have len := al.length
  have base : Ok { W with G := W.G.set 11 none } σ H := ok_hush o
  have keepT : ∀ {H2 : Hp} {t : Addr} {xs : List V}, (∀ a ob, ¬ Qs a → H1 a = some ob → H2 a = some ob) → SqT K H1 t xs → SqT K H2 t xs := fun {H2 t xs} k h => by
    rcases h with (h | ⟨ob, h⟩) | h
    · exact .inl (.inl (k t _ (fun ⟨_, _, ws, _, z, _⟩ => by rw [h] at z; cases z) h))
    · exact .inl (.inr ⟨ob, k t _ (fun ⟨_, _, ws, _, z, _⟩ => by rw [h] at z; cases z) h⟩)
    · exact .inr h
  refine for_list (K := K) (a := l) (xs := vs) (fun k σ' H2 => Ok { W with G := W.G.set 11 none } σ' H ∧ (∀ a ob, ¬ Qs a → H1 a = some ob → H2 a = some ob) ∧ ∀ a, Qs a → ∃ ws, H2 a = some (.lst ws) ∧ ws.length ≤ 4 + k) ⟨base, fun a ob _ h => h, fun a ⟨_, x, ws, mx, h, e, _⟩ => ⟨ws, h, by have := h4 x mx; omega⟩⟩ (fun k σ' H2 _ ⟨_, k1, _⟩ => SqL.of (k1 l _ (fun ⟨_, _, _, _, _, _, _, n⟩ => n rfl) hlv)) ?_ ?_
  · rintro k v σ' H2 hv ⟨o', k1, k2⟩
    obtain ⟨x, hx, t, q, ws0, rfl, sq, hq, eq, nq, nl⟩ := al.getV hv
    have mx : x ∈ s.posts.map (·.2) := List.mem_of_getElem? hx
    have hQ : Qs q := ⟨t, x, ws0, mx, hq, eq, nq, nl⟩
    obtain ⟨ws, hw, lw⟩ := k2 q hQ
    have lσ : 11 < σ'.length := by
      have := o'.len
      rw [show ({ W with G := W.G.set 11 none } : Wd).G.length = W.G.length from List.length_set ..] at this
      omega
    have kl : k < vs.length := (List.getElem?_eq_some_iff.mp hv).1
    refine ⟨.ref t, by rw [List.getElem?_set, if_pos rfl, if_pos lσ], t, [.int x.1, .ref q], 1, .ref q, rfl, rfl, keepT k1 sq, rfl, .inl ⟨rfl, ws, SqL.of hw⟩, ?_⟩
    refine ⟨by show 2 ≤ sizeLine; decide, fun p1 n1 => ⟨by show 2 ≤ sizeLine; decide, fun p2 n2 => ?_⟩⟩
    have q1 : q ≠ p1 := fun e => by rw [e, n1] at hw; cases hw
    have q2 : q ≠ p2 := fun e => by
      rw [← e, upd_ne q1, hw] at n2
      cases n2
    refine ⟨q, ws, .ref p2, rfl, rfl, by rw [upd_ne q2, upd_ne q1]; exact hw, by rw [sizeLine_eq]; rw [List.length_map] at len; omega, ?_⟩
    refine ⟨ok_forget o', fun a ob na ha => ?_, fun a ha => ?_⟩
    · have h2 := k1 a ob na ha
      have a1 : a ≠ p1 := fun e => by rw [e, n1] at h2; cases h2
      have a2 : a ≠ p2 := fun e => by
        rw [← e, upd_ne a1, h2] at n2
        cases n2
      have a3 : a ≠ q := fun e => na (e ▸ hQ)
      rw [upd_ne a3, upd_ne a2, upd_ne a1]
      exact h2
    · by_cases e : a = q
      · subst e
        exact ⟨_, upd_same, by rw [List.length_append, List.length_singleton]; omega⟩
      · obtain ⟨ws', h2, l2⟩ := k2 a ha
        have a1 : a ≠ p1 := fun e => by rw [e, n1] at h2; cases h2
        have a2 : a ≠ p2 := fun e => by
          rw [← e, upd_ne a1, h2] at n2
          cases n2
        exact ⟨ws', by rw [upd_ne e, upd_ne a2, upd_ne a1]; exact h2, by omega⟩
  · rintro σ' H2 ⟨o', k1, k2⟩
    refine hd σ' H2 (o'.same fun a ob h => k1 a ob (fun ⟨_, _, _, _, _, _, n, _⟩ => by rw [h] at n; cases n) (up a ob h))
end
end Cs
set_option maxHeartbeats 4000000
namespace Cs
open PySem PySem.Spec PyProof.Rows L2
local macro_rules | `(tactic| walk_at "rd") => `(tactic| (first
  | (refine ⟨_, rfl, ?_⟩)
  | (refine ⟨_, _, rfl, rfl, ?_⟩)
  | (refine .inl ⟨_, rfl, ?_⟩)
  | (refine .inr ⟨_, rfl, ?_⟩)
  | (refine ⟨_, _, _, _, rfl, rfl, SqL.of upd_same, rfl, ?_⟩)
  | (refine ⟨_, _, _, _, rfl, rfl, upd_same, rfl, ?_⟩)
  | (refine ⟨_, ?xs, _, ?v, rfl, rfl, ?h, ?x, ?_⟩; (case h => first | exact SqL.of (by assumption) | exact SqT.of (by assumption) | assumption); (case x => first | rfl | exact atI_nat (j := 0) rfl | exact atI_nat (j := 1) rfl))))
local macro_rules | `(tactic| walk_at "isi") => `(tactic| (first
  | (refine ⟨_, _, _, _, _, rfl, .ty _, .base (.int _), kit_ty kit_it, ?_⟩)
  | (refine ⟨_, _, _, _, _, rfl, .ty _, .base (.int _), kit_ty kit_ib, ?_⟩)
  | (refine ⟨_, _, _, _, _, rfl, .ty _, .base (.int _), kit_ty kit_ii, ?_⟩)
  | (refine ⟨_, _, _, _, _, rfl, .ty _, .base (.bl _), kit_ty kit_bt, ?_⟩)
  | (refine ⟨_, _, _, _, _, rfl, .ty _, .base (.bl _), kit_ty kit_bb, ?_⟩)
  | (refine ⟨_, _, _, _, _, rfl, .ty _, .base (.bl _), kit_ty kit_bi, ?_⟩)))
local macro_rules | `(tactic| walk_at "ev") => `(tactic| (first
  | exact ev_var rfl
  | exact ev_int
  | exact ev_str
  | exact ev_bl
  | exact ev_non
  | (refine ev_add ?_ ?_ <;> walk_at "ev")
  | (refine ev_sub ?_ ?_ <;> walk_at "ev")
  | (refine ev_mul ?_ ?_ ?_ <;> (try walk_at "ev"))
  | (refine ev_neg ?_ <;> walk_at "ev")
  | (refine ev_num ?_ <;> walk_at "ev")
  | (refine ev_den ?_ <;> walk_at "ev")
  | (refine ev_cmp ?_ ?_ <;> walk_at "ev")
  | (refine ev_eqI ?_ ?_ <;> walk_at "ev")
  | (refine ev_eqS ?_ ?_ <;> walk_at "ev")
  | (refine ev_neI ?_ ?_ <;> walk_at "ev")
  | (refine ev_neS ?_ ?_ <;> walk_at "ev")
  | (refine ev_inS ?_ ?_ <;> walk_at "ev")
  | (refine ev_niS ?_ ?_ <;> walk_at "ev")
  | (refine ev_len ?_ <;> walk_at "ev")
  | (refine ev_list ?_ <;> walk_at "ev")
  | (refine ev_listRev ?_ <;> walk_at "ev")
  | (refine ev_int1 ?_ <;> walk_at "ev")))
local macro_rules | `(tactic| walk_at "ea") => `(tactic| (first
  | exact ea_nil
  | (refine ea_cons ?_ ?_ <;> (first | walk_at "ev" | walk_at "ea" | skip))))
local macro_rules | `(tactic| walk_at "sb") => `(tactic| (first | exact True.intro | (refine And.intro rfl ?_; walk_at "sb")))
section
variable {P : Program} {w : World} {K : PySem.W.Frag} {mg : Str → Option Value} {base : Heap}
/-- how books are made -/
structure MkBk (P : Program) (w : World) (K : PySem.W.Frag) (mg : Str → Option Value) (base : Heap) (k : Nat) (CB fI : Addr) (fdI : FuncData) : Prop where
  mkc : Mk K CB fI
  ok : FnOk P w K mg base CX0 k fI fdI ["self"] (spBkI CB)
  m : mg "Books" = some (.ref CB)
  b : Binds K fdI ["self"] []
def isNum : Due → Bool
  | .num _ => true
  | _ => false
theorem kit_si : kitB "str" "int" = some false := by decide +kernel
theorem kit_ti : kitB "tuple" "int" = some false := by decide +kernel
theorem ty_tup {H : Hp} {p : Addr} {xs : List V} (h : SqT K H p xs) : TyX K H (.ref p) (.type "tuple") := by
  rcases h with (h | ⟨o, h⟩) | ⟨o, its, n, h, hc, _⟩
  · exact .base (.tup h)
  · exact .fTuple h
  · exact .kTuple h hc
theorem ev_isDue {W : Wd} {ta : TE} {x : Due} (h : Ev W ta (tDue K) x) : Ev W (tCB (rIsi K) (tCons ta (tCons (tC (.ty "int")) tNil))) tBl (isNum x) := fun σ H o Q q => h σ H o _ fun v H1 g1 r1 => by
  cases x with
  | day =>
    obtain rfl : v = .str "day" := r1
    exact ⟨_, _, _, _, _, rfl, .ty _, .base (.str _), kit_ty kit_si, q _ H1 g1 rfl⟩
  | num n =>
    obtain rfl : v = .int n := r1
    exact ⟨_, _, _, _, _, rfl, .ty _, .base (.int _), kit_ty kit_ii, q _ H1 g1 rfl⟩
  | acc z =>
    obtain ⟨p, a, b, rfl, s, _⟩ := (show (tPr K tSt tSt).r _ v ("account", z) from r1)
    exact ⟨_, _, _, _, _, rfl, .ty _, ty_tup (sqT_mono hid_sub s), kit_ty kit_ti, q _ H1 g1 rfl⟩
  | rest r =>
    obtain ⟨p, a, b, rfl, s, _⟩ := (show (tPr K tSt (tFr K)).r _ v ("rest", r) from r1)
    exact ⟨_, _, _, _, _, rfl, .ty _, ty_tup (sqT_mono hid_sub s), kit_ty kit_ti, q _ H1 g1 rfl⟩
theorem five_ok : ∀ z ∈ five5, nmOk z := by
  intro z m
  simp only [five5, List.mem_cons, List.not_mem_nil, or_false] at m
  rcases m with rfl | rfl | rfl | rfl | rfl <;> exact ⟨by decide +kernel, by decide +kernel⟩
theorem Dn.nums {n : Nat} {r : Rat} (h : Dn n r) (e : n < 2 ^ 39) : r.num.natAbs < 10 ^ 12 ∧ ((r.den : Int)).natAbs < 10 ^ 12 := by
  have s := h.sz (m := 39) e (by decide)
  have p : (2 : Nat) ^ 39 < 10 ^ 12 := by decide
  exact ⟨Nat.lt_trans s.1 p, by rw [Int.natAbs_natCast]; exact Nat.lt_trans s.2 p⟩
theorem es_sum {es : List (Str × Rat)} (h : EsOk es) : Dn 20000 (rsum (es.map (·.2))) := (rsum_dn (n := 5000) fun r m => by
  obtain ⟨e, me, rfl⟩ := List.mem_map.mp m
  exact h.d e me).mono (by have := h.l; rw [List.length_map]; omega)
theorem due_ok {as : List Str} {ps : List Post} {day : Int} {es : List (Str × Rat)} (h : EsOk es) (hl : ps.length ≤ 1000) : dueOk (due as ps day es) := by
  unfold due
  split
  · exact trivial
  · split
    · rename_i z hz
      unfold badOf at hz
      obtain ⟨e, he, rfl⟩ := Option.map_eq_some_iff.mp hz
      exact five_ok _ (h.n e (List.mem_of_find?_eq_some he))
    · split
      · show ((ps.length : Int)).natAbs < 10 ^ 12
        rw [Int.natAbs_natCast]
        exact Nat.lt_of_le_of_lt hl (by decide)
      · exact (es_sum h).nums (by decide)
theorem due_num {as : List Str} {ps : List Post} {day : Int} {es : List (Str × Rat)} (h : isNum (due as ps day es) = true) : (0 ≤ day ∧ newest ps ≤ day) ∧ (∀ e ∈ es, e.1 ∈ as) ∧ rsum (es.map (·.2)) = 0 := by
  unfold due at h
  split at h
  · cases h
  · rename_i hd
    split at h
    · cases h
    · rename_i hb
      split at h
      · rename_i hz
        refine ⟨⟨by omega, ?_⟩, fun e me => Decidable.byContradiction fun q => ?_, hz⟩
        · by_cases h0 : 0 < ps.length
          · rw [newest_lastP h0]
            exact Int.not_lt.mp fun q => hd (.inr ⟨h0, q⟩)
          · rw [List.length_eq_zero_iff.mp (by omega : ps.length = 0)]
            show (-1 : Int) ≤ day
            omega
        · unfold badOf at hb
          rw [Option.map_eq_none_iff, List.find?_eq_none] at hb
          have := hb e me
          simp [q] at this
      · cases h
/-! ### the law -/
def six6 : List Str := ["ann", "bob", "cy", "the world", "", "dan"]
def three3 : List Str := ["ann", "the world", "bob"]
theorem six_ok : ∀ z ∈ six6, PyData.strOk z = true := by
  intro z m
  simp only [six6, List.mem_cons, List.not_mem_nil, or_false] at m
  rcases m with rfl | rfl | rfl | rfl | rfl | rfl <;> decide +kernel
theorem five_st : ∀ z ∈ five5, PyData.strOk z = true := by
  intro z m
  simp only [five5, List.mem_cons, List.not_mem_nil, or_false] at m
  rcases m with rfl | rfl | rfl | rfl | rfl <;> decide +kernel
theorem three_six : ∀ z ∈ three3, z ∈ six6 := by decide
structure LP where
  N : List Addr
  s : Bk
  avs : List (V × Str)
  pvs : List (V × Post)
abbrev LP.as (c : LP) : List Str := c.avs.map (·.2)
abbrev LP.ps (c : LP) : List Post := c.pvs.map (·.2)
structure LI (k : Nat) (c : LP) : Prop where
  corr : Corr c.s c.as c.ps
  six : ∀ z ∈ c.as, z ∈ six6
  la : c.as.length ≤ k
  lp : c.ps.length ≤ k
theorem LI.mono {k j : Nat} {c : LP} (h : LI k c) (e : k ≤ j) : LI j c := ⟨h.corr, h.six, Nat.le_trans h.la e, Nat.le_trans h.lp e⟩
theorem LI.setN {k : Nat} {c : LP} (h : LI k c) (N : List Addr) : LI k { c with N := N } := ⟨h.corr, h.six, h.la, h.lp⟩
theorem li_open {k : Nat} {c : LP} {z : Str} {a : Addr} {v : V} {N : List Addr} (h : LI k c) (hz : z ∈ six6) (hn : ¬ (z = "" ∨ z ∈ c.as)) (hk : k < 30) : LI (k + 1) ⟨N, c.s.open_ z a, c.avs ++ [(v, z)], c.pvs⟩ := by
  have ea : (c.avs ++ [(v, z)]).map (·.2) = c.as ++ [z] := by rw [List.map_append]; rfl
  have ni : z ∉ c.as := fun m => hn (.inr m)
  have ok := h.corr.ok
  have l1 : ((c.avs ++ [(v, z)]).map (·.2)).length ≤ k + 1 := by
    rw [ea, List.length_append, List.length_singleton]
    have := h.la
    omega
  refine ⟨⟨⟨?_, fun p m e me => ?_, ok.le, ok.dn, ok.d0, ok.ch, ok.zero, ok.n⟩, h.corr.p, ?_, fun y m => ?_, by show ((c.avs ++ [(v, z)]).map (·.2)).length ≤ 40; omega⟩, fun y m => ?_, l1, Nat.le_succ_of_le h.lp⟩
  · show ((c.avs ++ [(v, z)]).map (·.2)).Nodup
    rw [ea, List.nodup_append]
    exact ⟨ok.nd, by simp, fun p hp q hq e => ni (by rw [← List.mem_singleton.mp hq, ← e]; exact hp)⟩
  · show e.1 ∈ (c.avs ++ [(v, z)]).map (·.2)
    rw [ea]
    exact List.mem_append_left _ (ok.kn p m e me)
  · show (c.s.accs ++ [(⟨z, a, []⟩ : Acc)]).map bare = ((c.avs ++ [(v, z)]).map (·.2)).map _
    rw [ea, List.map_append, List.map_append, h.corr.b]
    congr 1
    show [(z, [])] = [(z, stmt c.ps z)]
    rw [show stmt c.ps z = [] from stmtN_none ok.kn ni _]
  · have m : y ∈ (c.avs ++ [(v, z)]).map (·.2) := m
    rw [ea] at m
    rcases List.mem_append.mp m with m | m
    · exact h.corr.st y m
    · rw [List.mem_singleton.mp m]; exact six_ok z hz
  · have m : y ∈ (c.avs ++ [(v, z)]).map (·.2) := m
    rw [ea] at m
    rcases List.mem_append.mp m with m | m
    · exact h.six y m
    · rw [List.mem_singleton.mp m]; exact hz
theorem li_post {k : Nat} {c : LP} {day : Int} {es : List (Str × Rat)} {accs : List Acc} {v v' : V} {N : List Addr} (h : LI k c) (hk : k < 30) (hes : EsOk es) (hd : isNum (due c.as c.ps day es) = true) (hb : accs.map bare = (sumsOf es).foldl (postB day (c.s.posts.length : Int)) (c.s.accs.map bare)) : LI (k + 1) ⟨N, ⟨accs, c.s.posts ++ [(v, (day, es))]⟩, c.avs, c.pvs ++ [(v', (day, es))]⟩ := by
  obtain ⟨⟨d0, d1⟩, kn, hz⟩ := due_num hd
  have ep : (c.pvs ++ [(v', (day, es))]).map (·.2) = c.ps ++ [(day, es)] := by rw [List.map_append]; rfl
  have ok := h.corr.ok
  have lps : c.s.posts.length = c.ps.length := by rw [← h.corr.p, List.length_map]
  have lp := h.lp
  have mem : ∀ {P : Post → Prop}, (∀ p ∈ c.ps, P p) → P (day, es) → ∀ p ∈ (c.pvs ++ [(v', (day, es))]).map (·.2), P p := fun {P} h1 h2 p m => by
    rw [ep] at m
    rcases List.mem_append.mp m with m | m
    · exact h1 p m
    · rw [List.mem_singleton.mp m]; exact h2
  have l1 : ((c.pvs ++ [(v', (day, es))]).map (·.2)).length ≤ k + 1 := by
    rw [ep, List.length_append, List.length_singleton]
    omega
  refine ⟨⟨⟨ok.nd, mem ok.kn kn, mem ok.le hes.l, mem ok.dn hes.d, mem ok.d0 d0, ?_, mem ok.zero hz, by show ((c.pvs ++ [(v', (day, es))]).map (·.2)).length ≤ 30; omega⟩, ?_, ?_, h.corr.st, h.corr.len⟩, h.six, Nat.le_succ_of_le h.la, l1⟩
  · show ((c.pvs ++ [(v', (day, es))]).map (·.2)).Pairwise _
    rw [ep, List.pairwise_append]
    refine ⟨ok.ch, by simp, fun p hp q hq => ?_⟩
    rw [List.mem_singleton.mp hq]
    exact Int.le_trans (newest_ge ok p hp) d1
  · show (c.s.posts ++ [(v, (day, es))]).map (·.2) = (c.pvs ++ [(v', (day, es))]).map (·.2)
    rw [ep, List.map_append, h.corr.p]
    rfl
  · show accs.map bare = c.as.map fun z => (z, stmt ((c.pvs ++ [(v', (day, es))]).map (·.2)) z)
    rw [ep, hb, h.corr.b, lps]
    exact post_stmt
theorem corr_told {s : Bk} {as : List Str} {ps : List Post} (h : Corr s as ps) : (∀ c ∈ s.accs, Sz 3000 (lastB c.rows)) ∧ s.posts.length ≤ 1000 ∧ ∀ c ∈ s.accs, c.rows.length ≤ 1000 := by
  have n30 := h.ok.n
  have row : ∀ c ∈ s.accs, c.rows.map (·.2) = stmt ps c.n := fun c mc => by
    have m : bare c ∈ as.map fun z => (z, stmt ps z) := by rw [← h.b]; exact List.mem_map.mpr ⟨c, mc, rfl⟩
    obtain ⟨z, _, e⟩ := List.mem_map.mp m
    have e1 : z = c.n := congrArg Prod.fst e
    have e2 : stmt ps z = c.rows.map (·.2) := congrArg Prod.snd e
    rw [← e2, e1]
  refine ⟨fun c mc => ?_, ?_, fun c mc => ?_⟩
  · have e1 : lastB c.rows = lastR (stmt ps c.n) := by rw [lastB_bare, ← row c mc]; rfl
    rw [e1]
    exact ((stmtN_ok h.ok c.n ps.length (Nat.le_refl _)).2.2.mono (by omega : 20000 * ps.length ≤ 600000)).sz (Nat.lt_of_lt_of_le (by decide : 600000 < 2 ^ 20) (Nat.pow_le_pow_right (by decide) (by decide))) (Nat.lt_of_lt_of_le (by decide : 60 < 2 ^ 6) (Nat.pow_le_pow_right (by decide) (by decide)))
  · have := congrArg List.length h.p
    rw [List.length_map] at this
    omega
  · have := (stmtN_ok h.ok c.n ps.length (Nat.le_refl _)).1
    have e := congrArg List.length (row c mc)
    rw [List.length_map] at e
    have e2 : (stmt ps c.n).length = (stmtN ps c.n ps.length).length := rfl
    omega
theorem perm5 {α : Type} (a b c d e : α) : [a, b, c, d, e].Perm [c, b, d, a, e] :=
  (List.Perm.swap b a [c, d, e]).trans (((List.Perm.swap c a [d, e]).cons b).trans ((List.Perm.swap c b [a, d, e]).trans (((List.Perm.swap d a [e]).cons b).cons c)))
theorem perm4 {α : Type} (a b c d : α) : [a, b, c, d].Perm [c, b, a, d] := (List.Perm.swap b a [c, d]).trans (((List.Perm.swap c a [d]).cons b).trans (List.Perm.swap c b [a, d]))
theorem sub_due {α : Type} {g r a p d : α} : [a, p].Sublist [g, r, a, p, d] := .cons _ (.cons _ (.cons_cons _ (.cons_cons _ (List.nil_sublist _))))
theorem sub_st {α : Type} {r a p d : α} : [r, a, p].Sublist [r, a, p, d] := .cons_cons _ (.cons_cons _ (.cons_cons _ (List.nil_sublist _)))
end
end Cs
set_option maxHeartbeats 4000000
namespace Cs
open PySem PySem.Spec PyProof.Rows L2
local macro_rules | `(tactic| walk_at "rd") => `(tactic| (first
  | (refine ⟨_, rfl, ?_⟩)
  | (refine ⟨_, _, rfl, rfl, ?_⟩)
  | (refine .inl ⟨_, rfl, ?_⟩)
  | (refine .inr ⟨_, rfl, ?_⟩)
  | (refine ⟨_, _, _, _, rfl, rfl, SqL.of upd_same, rfl, ?_⟩)
  | (refine ⟨_, _, _, _, rfl, rfl, upd_same, rfl, ?_⟩)
  | (refine ⟨_, ?xs, _, ?v, rfl, rfl, ?h, ?x, ?_⟩; (case h => first | exact SqL.of (by assumption) | exact SqT.of (by assumption) | assumption); (case x => first | rfl | exact atI_nat (j := 0) rfl | exact atI_nat (j := 1) rfl))))
local macro_rules | `(tactic| walk_at "isi") => `(tactic| (first
  | (refine ⟨_, _, _, _, _, rfl, .ty _, .base (.int _), kit_ty kit_it, ?_⟩)
  | (refine ⟨_, _, _, _, _, rfl, .ty _, .base (.int _), kit_ty kit_ib, ?_⟩)
  | (refine ⟨_, _, _, _, _, rfl, .ty _, .base (.int _), kit_ty kit_ii, ?_⟩)
  | (refine ⟨_, _, _, _, _, rfl, .ty _, .base (.bl _), kit_ty kit_bt, ?_⟩)
  | (refine ⟨_, _, _, _, _, rfl, .ty _, .base (.bl _), kit_ty kit_bb, ?_⟩)
  | (refine ⟨_, _, _, _, _, rfl, .ty _, .base (.bl _), kit_ty kit_bi, ?_⟩)))
local macro_rules | `(tactic| walk_at "ev") => `(tactic| (first
  | exact ev_var rfl
  | exact ev_int
  | exact ev_str
  | exact ev_bl
  | exact ev_non
  | (refine ev_add ?_ ?_ <;> walk_at "ev")
  | (refine ev_sub ?_ ?_ <;> walk_at "ev")
  | (refine ev_mul ?_ ?_ ?_ <;> (try walk_at "ev"))
  | (refine ev_neg ?_ <;> walk_at "ev")
  | (refine ev_num ?_ <;> walk_at "ev")
  | (refine ev_den ?_ <;> walk_at "ev")
  | (refine ev_cmp ?_ ?_ <;> walk_at "ev")
  | (refine ev_eqI ?_ ?_ <;> walk_at "ev")
  | (refine ev_eqS ?_ ?_ <;> walk_at "ev")
  | (refine ev_neI ?_ ?_ <;> walk_at "ev")
  | (refine ev_neS ?_ ?_ <;> walk_at "ev")
  | (refine ev_inS ?_ ?_ <;> walk_at "ev")
  | (refine ev_niS ?_ ?_ <;> walk_at "ev")
  | (refine ev_len ?_ <;> walk_at "ev")
  | (refine ev_list ?_ <;> walk_at "ev")
  | (refine ev_listRev ?_ <;> walk_at "ev")
  | (refine ev_int1 ?_ <;> walk_at "ev")))
local macro_rules | `(tactic| walk_at "ea") => `(tactic| (first
  | exact ea_nil
  | (refine ea_cons ?_ ?_ <;> (first | walk_at "ev" | walk_at "ea" | skip))))
local macro_rules | `(tactic| walk_at "sb") => `(tactic| (first | exact True.intro | (refine And.intro rfl ?_; walk_at "sb")))
section
variable {P : Program} {w : World} {K : PySem.W.Frag} {mg : Str → Option Value} {base : Heap}
abbrev sLaw : Stmt := topS 34
theorem scLaw : FnScope ["script", "state", "books", "accounts", "postings", "name", "_law_turn", "day", "entries", "given", "due", "row"] ["script"] (defScope sLaw) := ⟨rfl, rfl, rfl, by decide +kernel, rfl, by decide +kernel, by decide +kernel⟩
theorem ok_law {f CB fI : Addr} {fd fdI : FuncData} {k : Nat} (hroom : Room (k + 2) callerA) (F : Fun K "law" "law" sLaw f fd) (BC : BkC K CB) (MB : MkBk P w K mg base k CB fI fdI) (c_law_state : Cal P w K mg base (k + 1) "_law_state" ["script"] (spStateA K)) (c_law_draw : Cal P w K mg base (k + 1) "_law_draw" ["state", "many"] (spDrawSA K)) (c_law_open : Cal P w K mg base (k + 1) "_law_open" ["books", "accounts", "name"] (spLOpen K CB)) (c_law_told : Cal P w K mg base (k + 1) "_law_told" ["books", "day", "entries"] (spTold K CB))
    (c_law_due : Cal P w K mg base (k + 1) "_law_due" ["accounts", "postings", "day", "entries"] (spLDue K)) (c_law_entries : Cal P w K mg base (k + 1) "_law_entries" ["state"] (spLEn K)) (c_law_is_state : Cal P w K mg base (k + 1) "_law_is_state" ["books", "accounts", "postings"] (spLIs K CB)) (c_postings : CalM P w K mg base (k + 1) CB "postings" ["self"] (spPosN K CB))
    (z_list : mg "list" = none) (z_isinstance : mg "isinstance" = none) (z_range : mg "range" = none) (z_len : mg "len" = none) (z_int : mg "int" = none) (z_repr : mg "repr" = none) : RunAt P w K mg base f fd ["script"] (spLawT K) := by
  obtain ⟨mk_Books, ok_Books, m_Books, b_Books⟩ := MB
  refine ok_PA (k := k + 1) hroom F scLaw (fun _ => rfl) fun cdv s H0 S ns Q E hr hp out => ⟨_, (pss_cons (ps_set (i := 1) scLaw.nd rfl (Or.inl rfl) (pe_cal c_law_state hr (by rfl) (pa_cons (pv 0) pa_nil)))
      (pss_cons (ps_set (i := 2) scLaw.nd rfl (Or.inl rfl) (pe_make0 mk_Books ok_Books hr (by rfl) m_Books b_Books .nil pass0))
      (pss_cons (ps_set (i := 3) scLaw.nd rfl (Or.inl rfl) (pe_lst pa_nil))
      (pss_cons (ps_set (i := 4) scLaw.nd rfl (Or.inl rfl) (pe_lst pa_nil))
      (pss_cons (ps_for PassesOwn.never rfl (pi_list (pe_slice sl_list (pe_lst (pa_cons pe_str (pa_cons pe_str (pa_cons pe_str pa_nil)))) po_none (po_some (pe_op op_add pe_int (pe_cal c_law_draw hr (by rfl) (pa_cons (pv 1) (pa_cons pe_int pa_nil))))))) (pg_name (i := 5) scLaw.nd rfl (Or.inl rfl)) (pss_one (ps_if (pt_not (pt_val (pe_cal c_law_open hr (by rfl) (pa_cons (pv 2) (pa_cons (pv 3) (pa_cons (pv 5) pa_nil)))))) (pss_one (ps_ret pe_bl)) pss_nil)))
      (pss_cons (ps_for PassesOwn.never rfl (pi_range1 rfl z_range (pa_cons (pe_cal c_law_draw hr (by rfl) (pa_cons (pv 1) (pa_cons pe_int pa_nil))) pa_nil)) (pg_name (i := 6) scLaw.nd rfl (Or.inl rfl)) (pss_cons (ps_if (pt_cmpR op_eq (pe_cal c_law_draw hr (by rfl) (pa_cons (pv 1) (pa_cons pe_int pa_nil))) pe_int (nomark _)) (pss_one (ps_if (pt_not (pt_val (pe_cal c_law_open hr (by rfl) (pa_cons (pv 2) (pa_cons (pv 3) (pa_cons (pe_ix ix_list (pe_lst (pa_cons pe_str (pa_cons pe_str (pa_cons pe_str (pa_cons pe_str (pa_cons pe_str (pa_cons pe_str pa_nil))))))) (pe_cal c_law_draw hr (by rfl) (pa_cons (pv 1) (pa_cons pe_int pa_nil))) (fun _ _ => rfl)) pa_nil)))))) (pss_one (ps_ret pe_bl)) pss_nil)) (pss_cons (ps_set (i := 7) scLaw.nd rfl (Or.inl rfl) (pe_op op_sub (pe_cal c_law_draw hr (by rfl) (pa_cons (pv 1) (pa_cons pe_int pa_nil))) (pe_callTy call_int1 (by rfl) z_int (by decide +kernel) (pa_cons (pe_cmpR op_eq (pe_cal c_law_draw hr (by rfl) (pa_cons (pv 1) (pa_cons pe_int pa_nil))) pe_int (nomark _)) pa_nil))))
      (pss_cons (ps_if (pt_cmpR op_gt (pe_callB call_len_seq (by rfl) z_len PySem.boot_len (pa_cons (pv 4) pa_nil)) pe_int (nomark _)) (pss_one (ps_set (i := 7) scLaw.nd rfl (Or.inl rfl) (pe_op op_add (pv 7) (pe_ix ix_tup (pe_ix ix_list (pv 4) (pe_un un_neg pe_int) (fun _ _ => rfl)) pe_int (fun _ _ => rfl))))) pss_nil)
      (pss_cons (ps_set (i := 8) scLaw.nd rfl (Or.inl rfl) (pe_cal c_law_entries hr (by rfl) (pa_cons (pv 1) pa_nil)))
      (pss_cons (ps_set (i := 9) scLaw.nd rfl (Or.inl rfl) (pe_callTy call_list_of (by rfl) z_list (by decide +kernel) (pa_cons (pv 8) pa_nil)))
      (pss_cons (ps_set (i := 10) scLaw.nd rfl (Or.inl rfl) (pe_cal c_law_due hr (by rfl) (pa_cons (pv 3) (pa_cons (pv 4) (pa_cons (pv 7) (pa_cons (pv 8) pa_nil))))))
      (pss_cons (ps_if (PW.pt (pw_or (pt_cmpR op_ne (pe_callB (call_repr (K := K) rfl rfl hr.units) (by rfl) z_repr (by decide +kernel) (pa_cons (pe_cal c_law_told hr (by rfl) (pa_cons (pv 2) (pa_cons (pv 7) (pa_cons (pv 9) pa_nil)))) pa_nil)) (pe_callB (call_repr (K := K) rfl rfl hr.units) (by rfl) z_repr (by decide +kernel) (pa_cons (pv 10) pa_nil)) (nomark _)) (pw_or1 (pt_cmpR (op_neD hr.units) (pv 9) (pv 8) (nomark _))))) (pss_one (ps_ret pe_bl)) pss_nil)
      (pss_cons (ps_if (pt_val (pe_callB call_isi (by rfl) z_isinstance (by decide +kernel) (pa_cons (pv 10) (pa_cons (pe_bltn (v := .ty "int") (by rfl) z_int (by decide +kernel) rfl) pa_nil)))) (pss_one (ps_expr (pe_bm PySem.F.plainAttrs_list PySem.F.slot_list_append PySem.F.type_list_append mt_append (pv 4) (pa_cons (pe_tup (pa_cons (pv 7) (pa_cons (pv 8) pa_nil))) pa_nil)))) pss_nil)
      (pss_one (ps_expr (pe_bm PySem.F.plainAttrs_list PySem.F.slot_list_append PySem.F.type_list_append mt_append (pv 9) (pa_cons (pe_tup (pa_cons pe_str (pa_cons (pe_tup (pa_cons pe_int (pa_cons pe_int pa_nil))) pa_nil))) pa_nil))))))))))))
      (pss_one (ps_if (pt_not (pt_val (pe_cal c_law_is_state hr (by rfl) (pa_cons (pv 2) (pa_cons (pv 3) (pa_cons (pv 4) pa_nil)))))) (pss_one (ps_ret pe_bl)) pss_nil))))
      (pss_cons (ps_for PassesOwn.never rfl (pi_list (pe_calM0 (pv 2) c_postings BC.cl hr)) (pg_name (i := 11) scLaw.nd rfl (Or.inl rfl)) (pss_one (ps_expr (pe_bm PySem.F.plainAttrs_list PySem.F.slot_list_append PySem.F.type_list_append mt_append (pe_ix ix_tup (pv 11) pe_int (fun _ _ => rfl)) (pa_cons (pe_tup (pa_cons pe_str (pa_cons (pe_tup (pa_cons pe_int (pa_cons pe_int pa_nil))) pa_nil))) pa_nil)))))
      (pss_one (ps_ret (pe_cal c_law_is_state hr (by rfl) (pa_cons (pv 2) (pa_cons (pv 3) (pa_cons (pv 4) pa_nil))))))))))))), ?_⟩
  refine go_state rfl fun d l => ?_
  refine go_makeBk (K := K) fun b pd sd => ?_
  refine go_newT tSt fun ap nap => ?_
  refine go_newT (tPost K) fun pp npp => ?_
  have c0 : LI 0 ⟨[], ⟨[], []⟩, [], []⟩ := ⟨⟨⟨List.nodup_nil, (fun p m => nomatch m), (fun p m => nomatch m), (fun p m => nomatch m), (fun p m => nomatch m), List.Pairwise.nil, (fun p m => nomatch m), Nat.zero_le _⟩, rfl, rfl, (fun z m => nomatch m), Nat.zero_le _⟩, (fun z m => nomatch m), Nat.le_refl _, Nat.le_refl _⟩
  let lawL : LP → List RS := fun c => [rBk K CB b pd sd c.s, cell ap (cTg tSt c.avs), cell pp (cTg (tPost K) c.pvs), cell d (cSt K d l ns)]
  let G0 : List (Option SF) := [none, some (tRf.is d), some (tRf.is b), some (tRf.is ap), some (tRf.is pp), none, none, none, none, none, none, none]
  let S1 : List Addr := pp :: ap :: ([b, pd, sd] ++ (d :: S))
  have ns_of : ∀ {j : Nat} {c : LP}, LI j c → (BkX.names (b, pd, sd, c.s)) = c.as ∧ c.as.length ≤ 900 := fun {j c} h => ⟨h.corr.n, by have := h.corr.len; omega⟩
  -- opening, then on
  refine go_seq (go_forSx (X := fun xs => ∃ n : Int, n ≤ 3 ∧ xs = three3.take n.toNat) (ivx_list (Evx.imp (evx_take (K := K) (xs := three3) (ev_lst (K := K) (xs := three3) (el_cons ev_str (el_cons ev_str (el_cons ev_str el_nil))) (by show (3 : Nat) ≤ sizeLine; decide)) (evx_add (Ev.xe ev_int) (evx_drawS (K := K) (d := d) (l := l) (ns := ns) rfl in3 ev_int (by decide) (lt8 (by decide)))) ?_) ?_)) tgt_name
      (fun k (c : LP) => (c.N ++ S1, lawL c, G0)) (fun k c => LI k c) ⟨[], ⟨[], []⟩, [], []⟩ c0 rfl (fun σ H o => (o.perm (L' := lawL ⟨[], ⟨[], []⟩, [], []⟩) ?_).sb (by walk_at "sb")) (fun xs k c x f hX hx hk => ?_) (fun xs c hX hk σ H o => ?_))
  · rintro n ⟨i, j, rfl, ⟨h1, h2⟩, rfl⟩
    omega
  · rintro ys ⟨n, ⟨i, j, rfl, ⟨h1, h2⟩, rfl⟩, rfl⟩
    exact ⟨_, by omega, rfl⟩
  · exact perm4 _ _ _ _
  · obtain ⟨n, hn, rfl⟩ := hX
    have hk : LI k c := hk
    have k3 : k < 3 := by
      have := (List.getElem?_eq_some_iff.mp hx).1
      rw [List.length_take] at this
      exact Nat.lt_of_lt_of_le this (Nat.min_le_right _ _)
    have mx : x ∈ six6 := three_six x (List.mem_of_mem_take (List.mem_of_getElem? hx))
    refine go_ifm (etm_not (etm_B (evm_call (z := (⟨(b, pd, sd, c.s), ap, c.avs, x⟩ : OpX)) (R := [cell pp (cTg (tPost K) c.pvs), cell d (cSt K d l ns)]) (ea_cons (ev_var rfl) (ea_cons (ev_var rfl) (ea_cons (ev_var rfl) ea_nil))) (ns_of hk) (List.Perm.refl _)))) (fun W' hW => ?_) (fun W' hW => ?_)
    · obtain ⟨N, C', ⟨h, _⟩, _⟩ := hW
      cases h
    · obtain ⟨N, C', ⟨_, h⟩, rfl⟩ := hW
      rcases h with ⟨_, rfl⟩ | ⟨ht, a, v, rfl⟩
      · refine go_next fun σ H o => ⟨{ c with N := N ++ c.N }, (hk.setN _).mono (Nat.le_succ k), ?_⟩
        show Ok ⟨_, _, (N ++ c.N) ++ S1, _, _, _⟩ _ _
        rw [List.append_assoc]
        exact o.sb (by walk_at "sb")
      · refine go_next fun σ H o => ⟨⟨N ++ c.N, c.s.open_ x a, c.avs ++ [(v, x)], c.pvs⟩, li_open hk mx ht (by omega), ?_⟩
        show Ok ⟨_, _, (N ++ c.N) ++ S1, _, _, _⟩ _ _
        rw [List.append_assoc]
        exact o.sb (by walk_at "sb")
  · obtain ⟨n, hn, rfl⟩ := hX
    have hk : LI (three3.take n.toNat).length c := hk
    have hk : LI 3 c := hk.mono (by rw [List.length_take]; exact Nat.min_le_right _ _)
    have o : Ok ⟨H0, [], c.N ++ S1, lawL c, [], G0⟩ σ H := o
    clear hn
    dsimp only
    refine go_at o ?_
    refine go_seq (go_forSx (ivx_range1 (evx_drawS (K := K) (d := d) (l := l) (ns := ns) rfl in3 ev_int (by decide) (lt8 (by decide))) (fun n h => ⟨by omega, by omega⟩)) tgt_name
        (fun k (c : LP) => (c.N ++ S1, lawL c, G0)) (fun k c => LI (3 + k) c) c hk rfl (fun σ H o => o.sb (by walk_at "sb")) (fun xs k c x f hX hx hk => ?_) (fun xs c hX hk σ H o => ?_))
    · obtain ⟨n1, ⟨_, n21⟩, rfl⟩ := hX
      have hk : LI (3 + k) c := hk
      have k21 : k < 21 := by
        have := (List.getElem?_eq_some_iff.mp hx).1
        rw [List.length_map, List.length_range] at this
        omega
      have lps := hk.lp
      have law := hk.la
      have hps : c.pvs.length = c.ps.length := (List.length_map _).symm
      refine go_ifj2 (fun (c : LP) => ⟨H0, [], c.N ++ S1, lawL c, [f], G0⟩) (LI (3 + k + 1)) (etx_eqI (evx_drawS (K := K) (d := d) (l := l) (ns := ns) rfl in3 ev_int (by decide) (lt8 (by decide))) ev_int) (fun _ nx hnx => ?_) (fun _ nx hnx => ?_) (fun c hc => ?_)
      · refine go_ifm (etm_not (etm_B (evm_callx (δ := Str × Unit) (P := fun c => c.1 ∈ six6 ∧ True) (fun y => (⟨(b, pd, sd, c.s), ap, c.avs, y.1⟩ : OpX)) (R := [cell pp (cTg (tPost K) c.pvs), cell d (cSt K d l ns)]) (eax_cons (ev_var rfl) (eax_cons (ev_var rfl) (eax_consx (evx_ixL (K := K) (t := tSt) (xs := six6) (R := fun z => z ∈ six6) (ev_lst (K := K) (xs := six6) (el_cons ev_str (el_cons ev_str (el_cons ev_str (el_cons ev_str (el_cons ev_str (el_cons ev_str el_nil)))))) (by show (6 : Nat) ≤ sizeLine; decide)) (evx_drawS (K := K) (d := d) (l := l) (ns := ns) rfl in3 ev_int (by decide) (lt8 (by decide))) ?_) (Ea.xe ea_nil)))) (fun _ => rfl) (fun _ _ => ns_of hk) (fun _ => List.Perm.refl _)))) (fun W' hW => ?_) (fun W' hW => ?_)
        · rintro n ⟨h0, h1⟩
          have h6 : n.toNat < six6.length := by
            show n.toNat < 6
            omega
          refine ⟨six6[n.toNat], List.getElem_mem h6, ?_⟩
          have := atI_nat (List.getElem?_eq_getElem h6)
          rwa [Int.toNat_of_nonneg h0] at this
        · obtain ⟨z, _, N, C', ⟨h, _⟩, _⟩ := hW
          cases h
        · obtain ⟨⟨z, _⟩, ⟨mz, _⟩, N, C', ⟨_, h⟩, rfl⟩ := hW
          rcases h with ⟨_, rfl⟩ | ⟨ht, a, v, rfl⟩
          · refine go_next fun σ H o => hnx { c with N := N ++ c.N } ((hk.setN _).mono (by omega)) σ H ?_
            show Ok ⟨_, _, (N ++ c.N) ++ S1, _, _, _⟩ _ _
            rw [List.append_assoc]
            exact o.sb (by walk_at "sb")
          · refine go_next fun σ H o => hnx ⟨N ++ c.N, c.s.open_ z a, c.avs ++ [(v, z)], c.pvs⟩ (li_open hk mz ht (by omega)) σ H ?_
            show Ok ⟨_, _, (N ++ c.N) ++ S1, _, _, _⟩ _ _
            rw [List.append_assoc]
            exact o.sb (by walk_at "sb")
      · refine go_setx (evx_sub (evx_drawS (K := K) (d := d) (l := l) (ns := ns) rfl in3 ev_int (by decide) (lt8 (by decide))) (evx_intB (evx_eqI (evx_drawS (K := K) (d := d) (l := l) (ns := ns) rfl in3 ev_int (by decide) (lt8 (by decide))) ev_int))) fun day0 _ => ?_
        refine go_ifj (fun (day : Int) => ⟨H0, [], c.N ++ S1, lawL c, [f], [none, some (tRf.is d), some (tRf.is b), some (tRf.is ap), some (tRf.is pp), none, none, some (tInt.is day), none, none, none, none]⟩) (fun _ => True) (Et.toX (P := fun h => h = decide ((c.pvs.map (·.2)).length > (0 : Int))) (et_of (ev_cmp (ev_lenR (r := cell pp (cTg (tPost K) c.pvs)) in2 tg_says.l (ev_var rfl)) ev_int)) rfl) (fun h nx2 hnx2 => ?_) (fun _ => ⟨day0, trivial, fun σ H o => o.sb (by walk_at "sb")⟩) (fun day _ => ?_)
        · have h0 : 0 < c.ps.length := by
            have : (0 : Int) < (c.ps.length : Int) := of_decide_eq_true h.symm
            omega
          exact go_set1 (x := day0 + (lastP c.ps).1) (ev_add (ev_var rfl) (ev_fst (u := tLs K (tEn K)) (y := (lastP c.ps).2) (x := (lastP c.ps).1) (ev_ixR (t := tPost K) (x := ((lastP c.ps).1, (lastP c.ps).2)) (r := cell pp (cTg (tPost K) c.pvs)) in2 tg_says.l (ev_var rfl) (ev_neg ev_int) (lastP_at h0)))) fun σ H o => hnx2 _ trivial σ H (o.sb (by walk_at "sb"))
        refine go_setx (evx_call (z := (d, l, ns)) (ea_cons (ev_var rfl) ea_nil) trivial su3) fun es hes => ?_
        have hes : EsOk es := hes
        refine go_listT (t := tEn K) (ev_var rfl) fun g gvs ng eg => ?_
        refine go_set (x := due c.as c.ps day es) (evx_call (z := (⟨ap, c.avs, pp, c.pvs, day, es⟩ : DueX)) (ea_cons (ev_var rfl) (ea_cons (ev_var rfl) (ea_cons (ev_var rfl) (ea_cons (ev_var rfl) ea_nil)))) ⟨hes.d, by have := hes.l; show es.length ≤ 10; omega⟩ sub_due).ev ?_
        have hdu : dueOk (due c.as c.ps day es) := due_ok hes (by omega)
        have edue : dueB ((b, pd, sd, c.s), day, g, gvs) = due c.as c.ps day es := by
          show due (c.s.accs.map Acc.n) (c.s.posts.map (·.2)) day (gvs.map (·.2)) = _
          rw [hk.corr.n, hk.corr.p, eg]
        obtain ⟨t1, t2, t3⟩ := corr_told hk.corr
        have told : ToldOk ((b, pd, sd, c.s), day, g, gvs) := ⟨⟨by show (c.s.accs.map Acc.n).Nodup; rw [hk.corr.n]; exact hk.corr.ok.nd, by show (gvs.map (·.2)).length ≤ 4; rw [eg]; exact hes.l, fun e me => (hes.d e (by rw [← eg]; exact me)).sz (Nat.lt_of_lt_of_le (by decide : 5000 < 2 ^ 13) (Nat.pow_le_pow_right (by decide) (by decide))) (by decide)⟩, t1, t2, t3⟩
        have lay : ∀ (xs : List (Str × Rat)), xs = es → ((eqLs (eqPr (K := K) eqSt eqFr)).d xs).canLay0 = true := fun xs e => lay_ls _ fun q m => lay_pr (lay_st (five_st _ (hes.n q (by rw [← e]; exact m)))) (lay_fr _)
        refine go_ifrm (etm_orF (etm_of (evm_neS (z := dueSh (due c.as c.ps day es)) (evm_repr wrt_due (evm_call (z := ((b, pd, sd, c.s), day, g, gvs)) (R := [cell ap (cTg tSt c.avs), cell pp (cTg (tPost K) c.pvs), cell d (cSt K d l ns)]) (ea_cons (ev_var rfl) (ea_cons (ev_var rfl) (ea_cons (ev_var rfl) ea_nil))) told (List.Perm.swap ..)) (fun x W' h => ?_)) (fun z W' hz => ?_))) (fun q W' h => ?_) (fun W' h => ?_)) (fun W' h => by cases h.1) (fun W' h => ?_)
        · obtain ⟨N, C', ht, _⟩ := h
          rw [ht.1, edue]
          exact hdu
        · obtain ⟨x, ⟨N, C', ht, rfl⟩, _⟩ := hz
          exact ev_repr wrt_due (ev_var (t := tDue K) (x := due c.as c.ps day es) rfl) hdu
        · obtain ⟨z, ⟨x, ⟨N, C', ht, rfl⟩, rfl⟩, rfl⟩ := h
          rw [ht.1, edue]
          simp
        · obtain ⟨z, ⟨x, ⟨N, C', ht, rfl⟩, _⟩, _⟩ := h
          have mem : cell g (cTg (tEn K) gvs) ∈ C' ++ [cell ap (cTg tSt c.avs), cell pp (cTg (tPost K) c.pvs), cell d (cSt K d l ns)] := by
            rcases ht.2 with ⟨n, _, _, v, accs, rfl, _⟩ | ⟨_, rfl⟩
            · exact in1
            · exact in1
          exact et_of (ev_is (ev_neDc1 (eqPr eqSt eqFr) (p := g) (vxs := gvs) (xs := es) (ev_var rfl) mem (ev_var rfl) (lay _ rfl) (lay _ eg) (by simp [eqLs, eqPr, eqSt, eqFr])) (by rw [eg]; simp))
        obtain ⟨_, z, ⟨x, ⟨N, C', ht, rfl⟩, _⟩, _⟩ := h
        obtain ⟨hx2, hc⟩ := ht
        rw [edue] at hx2
        subst hx2
        refine go_ifj (fun (c' : LP) => ⟨H0, [], c'.N ++ S1, cell g (cTg (tEn K) gvs) :: lawL c', [f], [none, some (tRf.is d), some (tRf.is b), some (tRf.is ap), some (tRf.is pp), none, none, none, none, some (tRf.is g), none, none]⟩) (LI (3 + k + 1)) (Et.toX (P := fun q => q = isNum (due c.as c.ps day es)) (et_B (ev_isDue (ev_var rfl))) rfl) (fun hq nx2 hnx2 => ?_) (fun hq => ?_) (fun c' hc' => ?_)
        · rcases hc with ⟨n, en, hy, v, accs, rfl, ha, hb⟩ | ⟨hno, _⟩
          · have hb2 : accs.map bare = (sumsOf es).foldl (postB day (c.s.posts.length : Int)) (c.s.accs.map bare) := by
              rw [← eg]
              exact hb
            refine go_app1T (t := tPost K) (x := (day, es)) (p := pp) (R := [rBk K CB b pd sd ⟨accs, c.s.posts ++ [(v, (day, gvs.map (·.2)))]⟩, cell g (cTg (tEn K) gvs), cell ap (cTg tSt c.avs), cell d (cSt K d l ns)]) (List.perm_middle (l₁ := [_, _, _])) (ev_var rfl) (ev_pr (ev_var rfl) (ev_var rfl)) (by rw [sizeLine_eq]; omega) rfl fun v' σ H o => hnx2 ⟨N ++ g :: c.N, ⟨accs, c.s.posts ++ [(v, (day, es))]⟩, c.avs, c.pvs ++ [(v', (day, es))]⟩ (li_post hk (by omega) hes hq.symm hb2) σ H ?_
            rw [eg] at o
            show Ok ⟨_, _, (N ++ g :: c.N) ++ S1, _, _, _⟩ _ _
            rw [List.append_assoc]
            exact (o.perm (perm5 _ _ _ _ _)).sb (by walk_at "sb")
          · exfalso
            cases hd : due c.as c.ps day es with
            | num n => exact hno n hd
            | day => rw [hd] at hq; cases hq
            | acc z => rw [hd] at hq; cases hq
            | rest r => rw [hd] at hq; cases hq
        · rcases hc with ⟨n, en, _⟩ | ⟨_, rfl⟩
          · exfalso
            rw [en] at hq
            cases hq
          · refine ⟨⟨N ++ g :: c.N, c.s, c.avs, c.pvs⟩, (hk.setN _).mono (by omega), fun σ H o => ?_⟩
            show Ok ⟨_, _, (N ++ g :: c.N) ++ S1, _, _, _⟩ _ _
            rw [List.append_assoc]
            exact (o.perm (List.Perm.swap ..)).sb (by walk_at "sb")
        · have hg4 : gvs.length ≤ 4 := by
            have := hes.l
            rw [← eg, List.length_map] at this
            exact this
          exact go_app1T (t := tEn K) (x := (("ann" : Str), 1)) (p := g) (R := lawL c') (List.Perm.refl _) (ev_var rfl) (ev_pr ev_str (ev_frac (K := K) (r := 1) ev_int ev_int rfl rfl)) (by rw [sizeLine_eq]; omega) rfl fun v σ H o => hnx c' hc' σ H ((ok_less o).sb (by walk_at "sb"))
      · refine go_if (et_not (et_B (evx_call (z := (⟨(b, pd, sd, c.s), ap, c.avs, pp, c.pvs⟩ : StX)) (ea_cons (ev_var rfl) (ea_cons (ev_var rfl) (ea_cons (ev_var rfl) ea_nil))) hc.corr sub_st).ev)) (fun h => by cases h) (fun _ => go_next fun σ H o => ⟨c, by rw [← Nat.add_assoc]; exact hc, o.sb (by walk_at "sb")⟩)
    · have hc := (show LI _ c from hk).corr
      have o : Ok ⟨H0, [], c.N ++ S1, lawL c, [], G0⟩ σ H := o
      dsimp only
      refine go_at o ?_
      have n30 := hc.ok.n
      have lp : c.s.posts.length ≤ 1000 := (corr_told hc).2.1
      refine go_seq (go_grow (s := c.s) (b := b) (pd := pd) (sd := sd) in0 rfl lp (fun p m => hc.ok.le p (by rw [← hc.p]; exact m)) (fun σ H o => ?_) (by show 11 < 12; decide))
      dsimp only at o ⊢
      refine go_at o ?_
      exact go_end (y := true) (evx_call (z := (⟨(b, pd, sd, c.s), ap, c.avs, pp, c.pvs⟩ : StX)) (ea_cons (ev_var rfl) (ea_cons (ev_var rfl) (ea_cons (ev_var rfl) ea_nil))) hc sub_st).ev out (hS := fun a m => by simp [S1, m])
end
end Cs
set_option maxHeartbeats 4000000
namespace Cs
open PySem PySem.Spec PyProof.Rows L2
local macro_rules | `(tactic| walk_at "rd") => `(tactic| (first
  | (refine ⟨_, rfl, ?_⟩)
  | (refine ⟨_, _, rfl, rfl, ?_⟩)
  | (refine .inl ⟨_, rfl, ?_⟩)
  | (refine .inr ⟨_, rfl, ?_⟩)
  | (refine ⟨_, _, _, _, rfl, rfl, SqL.of upd_same, rfl, ?_⟩)
  | (refine ⟨_, _, _, _, rfl, rfl, upd_same, rfl, ?_⟩)
  | (refine ⟨_, ?xs, _, ?v, rfl, rfl, ?h, ?x, ?_⟩; (case h => first | exact SqL.of (by assumption) | exact SqT.of (by assumption) | assumption); (case x => first | rfl | exact atI_nat (j := 0) rfl | exact atI_nat (j := 1) rfl))))
local macro_rules | `(tactic| walk_at "isi") => `(tactic| (first
  | (refine ⟨_, _, _, _, _, rfl, .ty _, .base (.int _), kit_ty kit_it, ?_⟩)
  | (refine ⟨_, _, _, _, _, rfl, .ty _, .base (.int _), kit_ty kit_ib, ?_⟩)
  | (refine ⟨_, _, _, _, _, rfl, .ty _, .base (.int _), kit_ty kit_ii, ?_⟩)
  | (refine ⟨_, _, _, _, _, rfl, .ty _, .base (.bl _), kit_ty kit_bt, ?_⟩)
  | (refine ⟨_, _, _, _, _, rfl, .ty _, .base (.bl _), kit_ty kit_bb, ?_⟩)
  | (refine ⟨_, _, _, _, _, rfl, .ty _, .base (.bl _), kit_ty kit_bi, ?_⟩)))
theorem bdPlus (kV doc pm : Value) (an : Option Addr) (cdv ct : Value) (us : List Value) (hl : us.length = (["a", "b"] : List Str).length) : bindArgs (PySem.W.fnOf "plus" "plus" (defArgs sPlus) (defBody sPlus) (defScope sPlus) .none kV doc pm an cdv ct) ⟨us, []⟩ = pure ((["a", "b"] : List Str).zip us) := match us, hl with | [_, _], _ => rfl
theorem bdTotal (kV doc pm : Value) (an : Option Addr) (cdv ct : Value) (us : List Value) (hl : us.length = (["values"] : List Str).length) : bindArgs (PySem.W.fnOf "total" "total" (defArgs sTotal) (defBody sTotal) (defScope sTotal) .none kV doc pm an cdv ct) ⟨us, []⟩ = pure ((["values"] : List Str).zip us) := match us, hl with | [_], _ => rfl
theorem bdState (kV doc pm : Value) (an : Option Addr) (cdv ct : Value) (us : List Value) (hl : us.length = (["script"] : List Str).length) : bindArgs (PySem.W.fnOf "_law_state" "_law_state" (defArgs sState) (defBody sState) (defScope sState) .none kV doc pm an cdv ct) ⟨us, []⟩ = pure ((["script"] : List Str).zip us) := match us, hl with | [_], _ => rfl
theorem bdDraw (kV doc pm : Value) (an : Option Addr) (cdv ct : Value) (us : List Value) (hl : us.length = (["state", "many"] : List Str).length) : bindArgs (PySem.W.fnOf "_law_draw" "_law_draw" (defArgs sDraw) (defBody sDraw) (defScope sDraw) .none kV doc pm an cdv ct) ⟨us, []⟩ = pure ((["state", "many"] : List Str).zip us) := match us, hl with | [_, _], _ => rfl
theorem bdLowest (kV doc pm : Value) (an : Option Addr) (cdv ct : Value) (us : List Value) (hl : us.length = (["p", "q"] : List Str).length) : bindArgs (PySem.W.fnOf "_law_lowest" "_law_lowest" (defArgs sLowest) (defBody sLowest) (defScope sLowest) .none kV doc pm an cdv ct) ⟨us, []⟩ = pure ((["p", "q"] : List Str).zip us) := match us, hl with | [_, _], _ => rfl
theorem bdLMinus (kV doc pm : Value) (an : Option Addr) (cdv ct : Value) (us : List Value) (hl : us.length = (["a", "b"] : List Str).length) : bindArgs (PySem.W.fnOf "_law_minus" "_law_minus" (defArgs sLMinus) (defBody sLMinus) (defScope sLMinus) .none kV doc pm an cdv ct) ⟨us, []⟩ = pure ((["a", "b"] : List Str).zip us) := match us, hl with | [_, _], _ => rfl
theorem bdLPlus (kV doc pm : Value) (an : Option Addr) (cdv ct : Value) (us : List Value) (hl : us.length = (["a", "b"] : List Str).length) : bindArgs (PySem.W.fnOf "_law_plus" "_law_plus" (defArgs sLPlus) (defBody sLPlus) (defScope sLPlus) .none kV doc pm an cdv ct) ⟨us, []⟩ = pure ((["a", "b"] : List Str).zip us) := match us, hl with | [_, _], _ => rfl
theorem bdLFrac (kV doc pm : Value) (an : Option Addr) (cdv ct : Value) (us : List Value) (hl : us.length = (["state"] : List Str).length) : bindArgs (PySem.W.fnOf "_law_fraction" "_law_fraction" (defArgs sLFrac) (defBody sLFrac) (defScope sLFrac) .none kV doc pm an cdv ct) ⟨us, []⟩ = pure ((["state"] : List Str).zip us) := match us, hl with | [_], _ => rfl
theorem bdLSum (kV doc pm : Value) (an : Option Addr) (cdv ct : Value) (us : List Value) (hl : us.length = (["values"] : List Str).length) : bindArgs (PySem.W.fnOf "_law_sum" "_law_sum" (defArgs sLSum) (defBody sLSum) (defScope sLSum) .none kV doc pm an cdv ct) ⟨us, []⟩ = pure ((["values"] : List Str).zip us) := match us, hl with | [_], _ => rfl
theorem bdLDue (kV doc pm : Value) (an : Option Addr) (cdv ct : Value) (us : List Value) (hl : us.length = (["accounts", "postings", "day", "entries"] : List Str).length) : bindArgs (PySem.W.fnOf "_law_due" "_law_due" (defArgs sLDue) (defBody sLDue) (defScope sLDue) .none kV doc pm an cdv ct) ⟨us, []⟩ = pure ((["accounts", "postings", "day", "entries"] : List Str).zip us) := match us, hl with | [_, _, _, _], _ => rfl
theorem bdLStm (kV doc pm : Value) (an : Option Addr) (cdv ct : Value) (us : List Value) (hl : us.length = (["postings", "wanted"] : List Str).length) : bindArgs (PySem.W.fnOf "_law_statement" "_law_statement" (defArgs sLStm) (defBody sLStm) (defScope sLStm) .none kV doc pm an cdv ct) ⟨us, []⟩ = pure ((["postings", "wanted"] : List Str).zip us) := match us, hl with | [_, _], _ => rfl
theorem bdLBal (kV doc pm : Value) (an : Option Addr) (cdv ct : Value) (us : List Value) (hl : us.length = (["postings", "wanted", "day"] : List Str).length) : bindArgs (PySem.W.fnOf "_law_balance" "_law_balance" (defArgs sLBal) (defBody sLBal) (defScope sLBal) .none kV doc pm an cdv ct) ⟨us, []⟩ = pure ((["postings", "wanted", "day"] : List Str).zip us) := match us, hl with | [_, _, _], _ => rfl
theorem bdLIs (kV doc pm : Value) (an : Option Addr) (cdv ct : Value) (us : List Value) (hl : us.length = (["books", "accounts", "postings"] : List Str).length) : bindArgs (PySem.W.fnOf "_law_is_state" "_law_is_state" (defArgs sLIs) (defBody sLIs) (defScope sLIs) .none kV doc pm an cdv ct) ⟨us, []⟩ = pure ((["books", "accounts", "postings"] : List Str).zip us) := match us, hl with | [_, _, _], _ => rfl
theorem bdLTold (kV doc pm : Value) (an : Option Addr) (cdv ct : Value) (us : List Value) (hl : us.length = (["books", "day", "entries"] : List Str).length) : bindArgs (PySem.W.fnOf "_law_told" "_law_told" (defArgs sLTold) (defBody sLTold) (defScope sLTold) .none kV doc pm an cdv ct) ⟨us, []⟩ = pure ((["books", "day", "entries"] : List Str).zip us) := match us, hl with | [_, _, _], _ => rfl
theorem bdLOpen (kV doc pm : Value) (an : Option Addr) (cdv ct : Value) (us : List Value) (hl : us.length = (["books", "accounts", "name"] : List Str).length) : bindArgs (PySem.W.fnOf "_law_open" "_law_open" (defArgs sLOpen) (defBody sLOpen) (defScope sLOpen) .none kV doc pm an cdv ct) ⟨us, []⟩ = pure ((["books", "accounts", "name"] : List Str).zip us) := match us, hl with | [_, _, _], _ => rfl
theorem bdLEn (kV doc pm : Value) (an : Option Addr) (cdv ct : Value) (us : List Value) (hl : us.length = (["state"] : List Str).length) : bindArgs (PySem.W.fnOf "_law_entries" "_law_entries" (defArgs sLEn) (defBody sLEn) (defScope sLEn) .none kV doc pm an cdv ct) ⟨us, []⟩ = pure ((["state"] : List Str).zip us) := match us, hl with | [_], _ => rfl
theorem bdFraction0 (T : Addr) (kV doc pm : Value) (an : Option Addr) (cdv ct : Value) (us its : List Value) (hl : us.length = 2) (hi : its.length = 1) :
      ∃ k, bindArgs (PySem.W.fnOf "fraction" "fraction" (defArgs sFraction) (defBody sFraction) (defScope sFraction) (.ref T) kV doc pm an cdv ct) ⟨us, []⟩ = seqItems? (.ref T) >>= k ∧ k (some its.toArray) = pure ((["p", "q"] : List Str).zip (us ++ its.drop 1)) := match us, its, hl, hi with | [_, _], [_], _, _ => ⟨_, rfl, rfl⟩
theorem bdFraction1 (T : Addr) (kV doc pm : Value) (an : Option Addr) (cdv ct : Value) (us its : List Value) (hl : us.length = 1) (hi : its.length = 1) :
      ∃ k, bindArgs (PySem.W.fnOf "fraction" "fraction" (defArgs sFraction) (defBody sFraction) (defScope sFraction) (.ref T) kV doc pm an cdv ct) ⟨us, []⟩ = seqItems? (.ref T) >>= k ∧ k (some its.toArray) = pure ((["p", "q"] : List Str).zip (us ++ its.drop 0)) := match us, its, hl, hi with | [_], [_], _, _ => ⟨_, rfl, rfl⟩
theorem bdBIni (kV doc pm : Value) (an : Option Addr) (cdv ct : Value) (us : List Value) (hl : us.length = (["self"] : List Str).length) : bindArgs (PySem.W.fnOf "__init__" "Books.__init__" (defArgs sBIni) (defBody sBIni) (defScope sBIni) .none kV doc pm an cdv ct) ⟨us, []⟩ = pure ((["self"] : List Str).zip us) := match us, hl with | [_], _ => rfl
theorem bdBLat (kV doc pm : Value) (an : Option Addr) (cdv ct : Value) (us : List Value) (hl : us.length = (["self"] : List Str).length) : bindArgs (PySem.W.fnOf "latest_day" "Books.latest_day" (defArgs sBLat) (defBody sBLat) (defScope sBLat) .none kV doc pm an cdv ct) ⟨us, []⟩ = pure ((["self"] : List Str).zip us) := match us, hl with | [_], _ => rfl
theorem bdBOpn (kV doc pm : Value) (an : Option Addr) (cdv ct : Value) (us : List Value) (hl : us.length = (["self", "name"] : List Str).length) : bindArgs (PySem.W.fnOf "open_account" "Books.open_account" (defArgs sBOpn) (defBody sBOpn) (defScope sBOpn) .none kV doc pm an cdv ct) ⟨us, []⟩ = pure ((["self", "name"] : List Str).zip us) := match us, hl with | [_, _], _ => rfl
theorem bdBPst (kV doc pm : Value) (an : Option Addr) (cdv ct : Value) (us : List Value) (hl : us.length = (["self", "day", "entries"] : List Str).length) : bindArgs (PySem.W.fnOf "post" "Books.post" (defArgs sBPst) (defBody sBPst) (defScope sBPst) .none kV doc pm an cdv ct) ⟨us, []⟩ = pure ((["self", "day", "entries"] : List Str).zip us) := match us, hl with | [_, _, _], _ => rfl
theorem bdBBal (kV doc pm : Value) (an : Option Addr) (cdv ct : Value) (us : List Value) (hl : us.length = (["self", "name"] : List Str).length) : bindArgs (PySem.W.fnOf "balance" "Books.balance" (defArgs sBBal) (defBody sBBal) (defScope sBBal) .none kV doc pm an cdv ct) ⟨us, []⟩ = pure ((["self", "name"] : List Str).zip us) := match us, hl with | [_, _], _ => rfl
theorem bdBBalOn (kV doc pm : Value) (an : Option Addr) (cdv ct : Value) (us : List Value) (hl : us.length = (["self", "name", "day"] : List Str).length) : bindArgs (PySem.W.fnOf "balance_on" "Books.balance_on" (defArgs sBBalOn) (defBody sBBalOn) (defScope sBBalOn) .none kV doc pm an cdv ct) ⟨us, []⟩ = pure ((["self", "name", "day"] : List Str).zip us) := match us, hl with | [_, _, _], _ => rfl
theorem bdBStm (kV doc pm : Value) (an : Option Addr) (cdv ct : Value) (us : List Value) (hl : us.length = (["self", "name"] : List Str).length) : bindArgs (PySem.W.fnOf "statement" "Books.statement" (defArgs sBStm) (defBody sBStm) (defScope sBStm) .none kV doc pm an cdv ct) ⟨us, []⟩ = pure ((["self", "name"] : List Str).zip us) := match us, hl with | [_, _], _ => rfl
theorem bdBAcc (kV doc pm : Value) (an : Option Addr) (cdv ct : Value) (us : List Value) (hl : us.length = (["self"] : List Str).length) : bindArgs (PySem.W.fnOf "accounts" "Books.accounts" (defArgs sBAcc) (defBody sBAcc) (defScope sBAcc) .none kV doc pm an cdv ct) ⟨us, []⟩ = pure ((["self"] : List Str).zip us) := match us, hl with | [_], _ => rfl
theorem bdBPos (kV doc pm : Value) (an : Option Addr) (cdv ct : Value) (us : List Value) (hl : us.length = (["self"] : List Str).length) : bindArgs (PySem.W.fnOf "postings" "Books.postings" (defArgs sBPos) (defBody sBPos) (defScope sBPos) .none kV doc pm an cdv ct) ⟨us, []⟩ = pure ((["self"] : List Str).zip us) := match us, hl with | [_], _ => rfl
theorem bdBChk (kV doc pm : Value) (an : Option Addr) (cdv ct : Value) (us : List Value) (hl : us.length = (["self", "name"] : List Str).length) : bindArgs (PySem.W.fnOf "_check" "Books._check" (defArgs sBChk) (defBody sBChk) (defScope sBChk) .none kV doc pm an cdv ct) ⟨us, []⟩ = pure ((["self", "name"] : List Str).zip us) := match us, hl with | [_, _], _ => rfl
theorem bdUInit (kV doc pm : Value) (an : Option Addr) (cdv ct : Value) (us : List Value) (hl : us.length = (["self", "name"] : List Str).length) : bindArgs (PySem.W.fnOf "__init__" "UnknownAccount.__init__" (defArgs sUInit) (defBody sUInit) (defScope sUInit) .none kV doc pm an cdv ct) ⟨us, []⟩ = pure ((["self", "name"] : List Str).zip us) := match us, hl with | [_, _], _ => rfl
theorem bdTInit (kV doc pm : Value) (an : Option Addr) (cdv ct : Value) (us : List Value) (hl : us.length = (["self", "name"] : List Str).length) : bindArgs (PySem.W.fnOf "__init__" "AccountTaken.__init__" (defArgs sTInit) (defBody sTInit) (defScope sTInit) .none kV doc pm an cdv ct) ⟨us, []⟩ = pure ((["self", "name"] : List Str).zip us) := match us, hl with | [_, _], _ => rfl
theorem bdRInit (kV doc pm : Value) (an : Option Addr) (cdv ct : Value) (us : List Value) (hl : us.length = (["self", "rest"] : List Str).length) : bindArgs (PySem.W.fnOf "__init__" "Unbalanced.__init__" (defArgs sRInit) (defBody sRInit) (defScope sRInit) .none kV doc pm an cdv ct) ⟨us, []⟩ = pure ((["self", "rest"] : List Str).zip us) := match us, hl with | [_, _], _ => rfl
theorem all_mk {l : PySem.W.OpenLaw} {w : World} {K : PySem.W.Frag} {h : Heap} {mg : Str → Option Value} {fa : Addr} {zZ : Addr} {dZ : Option Addr} {tk0 tk1 : Tok} {nZ : Nat} {slZ : Array (Option Value)} {CO CD : Addr} {CB : Addr} {fBIni : Addr} {odBIni anBIni : Option Addr} {slBIni : Array (Option Value)} {ocBIni kVBIni dcBIni pmBIni cdBIni ctBIni : Value} {fBLat : Addr} {odBLat anBLat : Option Addr} {slBLat : Array (Option Value)} {ocBLat kVBLat dcBLat pmBLat cdBLat ctBLat : Value} {pBLat : Addr} {rsBLat : List Value} {fBOpn : Addr} {odBOpn anBOpn : Option Addr} {slBOpn : Array (Option Value)} {ocBOpn kVBOpn dcBOpn pmBOpn cdBOpn ctBOpn : Value} {fBPst : Addr} {odBPst anBPst : Option Addr} {slBPst : Array (Option Value)} {ocBPst kVBPst dcBPst pmBPst cdBPst ctBPst : Value} {fBBal : Addr} {odBBal anBBal : Option Addr} {slBBal : Array (Option Value)} {ocBBal kVBBal dcBBal pmBBal cdBBal ctBBal : Value} {fBBalOn : Addr} {odBBalOn anBBalOn : Option Addr} {slBBalOn : Array (Option Value)} {ocBBalOn kVBBalOn dcBBalOn pmBBalOn cdBBalOn ctBBalOn : Value} {fBStm : Addr} {odBStm anBStm : Option Addr} {slBStm : Array (Option Value)} {ocBStm kVBStm dcBStm pmBStm cdBStm ctBStm : Value} {fBAcc : Addr} {odBAcc anBAcc : Option Addr} {slBAcc : Array (Option Value)} {ocBAcc kVBAcc dcBAcc pmBAcc cdBAcc ctBAcc : Value} {fBPos : Addr} {odBPos anBPos : Option Addr} {slBPos : Array (Option Value)} {ocBPos kVBPos dcBPos pmBPos cdBPos ctBPos : Value} {fBChk : Addr} {odBChk anBChk : Option Addr} {slBChk : Array (Option Value)} {ocBChk kVBChk dcBChk pmBChk cdBChk ctBChk : Value} {CE : Addr} {nmCE qCE : Str} {NCE : Addr} {bsCE bmCE : List Value} {snCE : List Str} {subCE : List Value} {abCE : Bool} {colCE : Option Bool} {ddCE : Option Addr} {m0CE m1CE m2CE m3CE m5CE : Option Value} {fUInit : Addr} {odUInit anUInit : Option Addr} {slUInit : Array (Option Value)} {ocUInit kVUInit dcUInit pmUInit cdUInit ctUInit : Value} {CT : Addr} {nmCT qCT : Str} {NCT : Addr} {bsCT bmCT : List Value} {snCT : List Str} {subCT : List Value} {abCT : Bool} {colCT : Option Bool} {ddCT : Option Addr} {m0CT m1CT m2CT m3CT m5CT : Option Value} {fTInit : Addr} {odTInit anTInit : Option Addr} {slTInit : Array (Option Value)} {ocTInit kVTInit dcTInit pmTInit cdTInit ctTInit : Value} {CR : Addr} {nmCR qCR : Str} {NCR : Addr} {bsCR bmCR : List Value} {snCR : List Str} {subCR : List Value} {abCR : Bool} {colCR : Option Bool} {ddCR : Option Addr} {m0CR m1CR m2CR m3CR m5CR : Option Value} {fRInit : Addr} {odRInit anRInit : Option Addr} {slRInit : Array (Option Value)} {ocRInit kVRInit dcRInit pmRInit cdRInit ctRInit : Value} (X : K.In h) (G : h.Ns mainGlobals mg) (hfa : mg "law" = some (.ref fa))
    (gPlus : FunG K mg "plus" sPlus ["a", "b"])
    (gTotal : FunG K mg "total" sTotal ["values"])
    (gState : FunG K mg "_law_state" sState ["script"])
    (gDraw : FunG K mg "_law_draw" sDraw ["state", "many"])
    (gLowest : FunG K mg "_law_lowest" sLowest ["p", "q"])
    (gLMinus : FunG K mg "_law_minus" sLMinus ["a", "b"])
    (gLPlus : FunG K mg "_law_plus" sLPlus ["a", "b"])
    (gLFrac : FunG K mg "_law_fraction" sLFrac ["state"])
    (gLSum : FunG K mg "_law_sum" sLSum ["values"])
    (gLDue : FunG K mg "_law_due" sLDue ["accounts", "postings", "day", "entries"])
    (gLStm : FunG K mg "_law_statement" sLStm ["postings", "wanted"])
    (gLBal : FunG K mg "_law_balance" sLBal ["postings", "wanted", "day"])
    (gLIs : FunG K mg "_law_is_state" sLIs ["books", "accounts", "postings"])
    (gLTold : FunG K mg "_law_told" sLTold ["books", "day", "entries"])
    (gLOpen : FunG K mg "_law_open" sLOpen ["books", "accounts", "name"])
    (gLEn : FunG K mg "_law_entries" sLEn ["state"])
    (gFraction : FunDG K mg "fraction" sFraction ["p", "q"] [.int 1])
    {f2 : Addr} {od2 an2 : Option Addr} {sl2 : Array (Option Value)} {oc2 kV2 dc2 pm2 cd2 ct2 : Value}
    (a2 : PySem.W.nsIn K mainGlobals "law" = some (some (.ref f2))) (l2 : K.lookup f2 = some ⟨oc2, od2, .func (PySem.W.fnOf "law" "law" (defArgs sLaw) (defBody sLaw) (defScope sLaw) .none kV2 dc2 pm2 an2 cd2 ct2), sl2⟩) (c2 : PySem.W.codeIn K cd2 "law" = true) (k2 : PySem.W.keepIn K (.ref f2) = true)
    (y_len : PySem.W.nsIn K mainGlobals "len" = some none)
    (y_int : PySem.W.nsIn K mainGlobals "int" = some none)
    (y_abs : PySem.W.nsIn K mainGlobals "abs" = some none)
    (y_range : PySem.W.nsIn K mainGlobals "range" = some none)
    (y_isinstance : PySem.W.nsIn K mainGlobals "isinstance" = some none)
    (y_list : PySem.W.nsIn K mainGlobals "list" = some none)
    (y_repr : PySem.W.nsIn K mainGlobals "repr" = some none)
    (y_gcd : PySem.W.nsIn K mainGlobals "gcd" = some (some (.builtin "math.gcd")))
    (yZ : PySem.W.nsIn K mainGlobals "ZERO" = some (some (.ref zZ)))
    (lZ : K.lookup zZ = some ⟨.type "tuple", dZ, .seq #[.int 0 tk0, .int 1 tk1] nZ, slZ⟩)
    (gCO : PySem.W.nsIn K mainGlobals "ConsolError" = some (some (.ref CO)))
    (gCD : PySem.W.nsIn K mainGlobals "InvalidDay" = some (some (.ref CD)))
    (xCD : PySem.W.excIn K CD [.type "ValueError", .type "Exception", .type "BaseException", .type "object"] "ValueError.__new__" = true)
    (kpCD : PySem.W.keepIn K (.ref CD) = true)
    (e4CD : PySem.W.subIn K (.ref CD) (.type "BaseException") = some true)
    (e5CD : PySem.W.typeIn K (.ref CD) = some (.type "type"))
    (e6CD : PySem.W.hasDictIn K CD = true)
    (ssCD : PySem.W.subIn K (.ref CD) (.ref CD) = some true)
    (gCB : PySem.W.nsIn K mainGlobals "Books" = some (some (.ref CB)))
    (pgCB : PySem.W.plainGet K CB Str.empty = true)
    (hdCB : PySem.W.hasDictIn K CB = true)
    (poCB : PySem.W.plainOver K CB = true)
    (saCB : PySem.W.findIn K (.ref CB) "__setattr__" = some (some (.builtin "object.__setattr__")))
    (mkCB : PySem.W.makesIn K CB = true)
    (kcCB : PySem.W.keepIn K (.ref CB) = true)
    (naCB0 : PySem.W.findIn K (.ref CB) "posted" = some none)
    (naCB1 : PySem.W.findIn K (.ref CB) "statements" = some none)
    (miBIni : PySem.W.findIn K (.ref CB) "__init__" = some (some (.ref fBIni)))
    (mjBIni : PySem.W.isFn K (.ref fBIni) = true)
    (mlBIni : K.lookup fBIni = some ⟨ocBIni, odBIni, .func (PySem.W.fnOf "__init__" "Books.__init__" (defArgs sBIni) (defBody sBIni) (defScope sBIni) .none kVBIni dcBIni pmBIni anBIni cdBIni ctBIni), slBIni⟩)
    (mcBIni : PySem.W.codeIn K cdBIni "Books.__init__" = true)
    (mkBIni : PySem.W.keepIn K (.ref fBIni) = true)
    (miBLat : PySem.W.findIn K (.ref CB) "latest_day" = some (some (.ref pBLat)))
    (mgBLat : PySem.W.specialIn K (.ref pBLat) "__get__" = some (some (.builtin "property.__get__")))
    (mtBLat : PySem.W.takesIn K (.ref pBLat) = some true)
    (mrBLat : PySem.W.recIn K pBLat "property" = some (.ref fBLat :: rsBLat))
    (mlBLat : K.lookup fBLat = some ⟨ocBLat, odBLat, .func (PySem.W.fnOf "latest_day" "Books.latest_day" (defArgs sBLat) (defBody sBLat) (defScope sBLat) .none kVBLat dcBLat pmBLat anBLat cdBLat ctBLat), slBLat⟩)
    (mcBLat : PySem.W.codeIn K cdBLat "Books.latest_day" = true)
    (mkBLat : PySem.W.keepIn K (.ref fBLat) = true)
    (miBOpn : PySem.W.findIn K (.ref CB) "open_account" = some (some (.ref fBOpn)))
    (mjBOpn : PySem.W.isFn K (.ref fBOpn) = true)
    (mlBOpn : K.lookup fBOpn = some ⟨ocBOpn, odBOpn, .func (PySem.W.fnOf "open_account" "Books.open_account" (defArgs sBOpn) (defBody sBOpn) (defScope sBOpn) .none kVBOpn dcBOpn pmBOpn anBOpn cdBOpn ctBOpn), slBOpn⟩)
    (mcBOpn : PySem.W.codeIn K cdBOpn "Books.open_account" = true)
    (mkBOpn : PySem.W.keepIn K (.ref fBOpn) = true)
    (miBPst : PySem.W.findIn K (.ref CB) "post" = some (some (.ref fBPst)))
    (mjBPst : PySem.W.isFn K (.ref fBPst) = true)
    (mlBPst : K.lookup fBPst = some ⟨ocBPst, odBPst, .func (PySem.W.fnOf "post" "Books.post" (defArgs sBPst) (defBody sBPst) (defScope sBPst) .none kVBPst dcBPst pmBPst anBPst cdBPst ctBPst), slBPst⟩)
    (mcBPst : PySem.W.codeIn K cdBPst "Books.post" = true)
    (mkBPst : PySem.W.keepIn K (.ref fBPst) = true)
    (miBBal : PySem.W.findIn K (.ref CB) "balance" = some (some (.ref fBBal)))
    (mjBBal : PySem.W.isFn K (.ref fBBal) = true)
    (mlBBal : K.lookup fBBal = some ⟨ocBBal, odBBal, .func (PySem.W.fnOf "balance" "Books.balance" (defArgs sBBal) (defBody sBBal) (defScope sBBal) .none kVBBal dcBBal pmBBal anBBal cdBBal ctBBal), slBBal⟩)
    (mcBBal : PySem.W.codeIn K cdBBal "Books.balance" = true)
    (mkBBal : PySem.W.keepIn K (.ref fBBal) = true)
    (miBBalOn : PySem.W.findIn K (.ref CB) "balance_on" = some (some (.ref fBBalOn)))
    (mjBBalOn : PySem.W.isFn K (.ref fBBalOn) = true)
    (mlBBalOn : K.lookup fBBalOn = some ⟨ocBBalOn, odBBalOn, .func (PySem.W.fnOf "balance_on" "Books.balance_on" (defArgs sBBalOn) (defBody sBBalOn) (defScope sBBalOn) .none kVBBalOn dcBBalOn pmBBalOn anBBalOn cdBBalOn ctBBalOn), slBBalOn⟩)
    (mcBBalOn : PySem.W.codeIn K cdBBalOn "Books.balance_on" = true)
    (mkBBalOn : PySem.W.keepIn K (.ref fBBalOn) = true)
    (miBStm : PySem.W.findIn K (.ref CB) "statement" = some (some (.ref fBStm)))
    (mjBStm : PySem.W.isFn K (.ref fBStm) = true)
    (mlBStm : K.lookup fBStm = some ⟨ocBStm, odBStm, .func (PySem.W.fnOf "statement" "Books.statement" (defArgs sBStm) (defBody sBStm) (defScope sBStm) .none kVBStm dcBStm pmBStm anBStm cdBStm ctBStm), slBStm⟩)
    (mcBStm : PySem.W.codeIn K cdBStm "Books.statement" = true)
    (mkBStm : PySem.W.keepIn K (.ref fBStm) = true)
    (miBAcc : PySem.W.findIn K (.ref CB) "accounts" = some (some (.ref fBAcc)))
    (mjBAcc : PySem.W.isFn K (.ref fBAcc) = true)
    (mlBAcc : K.lookup fBAcc = some ⟨ocBAcc, odBAcc, .func (PySem.W.fnOf "accounts" "Books.accounts" (defArgs sBAcc) (defBody sBAcc) (defScope sBAcc) .none kVBAcc dcBAcc pmBAcc anBAcc cdBAcc ctBAcc), slBAcc⟩)
    (mcBAcc : PySem.W.codeIn K cdBAcc "Books.accounts" = true)
    (mkBAcc : PySem.W.keepIn K (.ref fBAcc) = true)
    (miBPos : PySem.W.findIn K (.ref CB) "postings" = some (some (.ref fBPos)))
    (mjBPos : PySem.W.isFn K (.ref fBPos) = true)
    (mlBPos : K.lookup fBPos = some ⟨ocBPos, odBPos, .func (PySem.W.fnOf "postings" "Books.postings" (defArgs sBPos) (defBody sBPos) (defScope sBPos) .none kVBPos dcBPos pmBPos anBPos cdBPos ctBPos), slBPos⟩)
    (mcBPos : PySem.W.codeIn K cdBPos "Books.postings" = true)
    (mkBPos : PySem.W.keepIn K (.ref fBPos) = true)
    (miBChk : PySem.W.findIn K (.ref CB) "_check" = some (some (.ref fBChk)))
    (mjBChk : PySem.W.isFn K (.ref fBChk) = true)
    (mlBChk : K.lookup fBChk = some ⟨ocBChk, odBChk, .func (PySem.W.fnOf "_check" "Books._check" (defArgs sBChk) (defBody sBChk) (defScope sBChk) .none kVBChk dcBChk pmBChk anBChk cdBChk ctBChk), slBChk⟩)
    (mcBChk : PySem.W.codeIn K cdBChk "Books._check" = true)
    (mkBChk : PySem.W.keepIn K (.ref fBChk) = true)
    (gCE : PySem.W.nsIn K mainGlobals "UnknownAccount" = some (some (.ref CE)))
    (xCE : K.lookup CE = some (excClassObj nmCE qCE CE NCE bsCE bmCE true snCE subCE abCE colCE ddCE m0CE m1CE m2CE m3CE m5CE "ValueError.__new__"))
    (bmvCE : PySem.HandSPX.refsVE bmCE = true)
    (saCE : PySem.W.findIn K (.ref CE) "__setattr__" = some (some (.builtin "object.__setattr__")))
    (e4CE : PySem.W.subIn K (.ref CE) (.type "BaseException") = some true)
    (e5CE : PySem.W.typeIn K (.ref CE) = some (.type "type"))
    (kpCE : PySem.W.keepIn K (.ref CE) = true)
    (e6CE : PySem.W.hasDictIn K CE = true)
    (noCE : PySem.W.findIn K (.ref CE) "name" = some none)
    (xaCE : PySem.W.findIn K (.ref CE) "__getattribute__" = some (some (.builtin "BaseException.__getattribute__")))
    (xgCE : PySem.W.findIn K (.ref CE) "__getattr__" = some none)
    (ssCE : PySem.W.subIn K (.ref CE) (.ref CE) = some true)
    (miUInit : PySem.W.findIn K (.ref CE) "__init__" = some (some (.ref fUInit)))
    (mjUInit : PySem.W.isFn K (.ref fUInit) = true)
    (mlUInit : K.lookup fUInit = some ⟨ocUInit, odUInit, .func (PySem.W.fnOf "__init__" "UnknownAccount.__init__" (defArgs sUInit) (defBody sUInit) (defScope sUInit) .none kVUInit dcUInit pmUInit anUInit cdUInit ctUInit), slUInit⟩)
    (mcUInit : PySem.W.codeIn K cdUInit "UnknownAccount.__init__" = true)
    (mkUInit : PySem.W.keepIn K (.ref fUInit) = true)
    (tyCE : PySem.W.typeIn K (.ref fUInit) = some (.type "function"))
    (gCT : PySem.W.nsIn K mainGlobals "AccountTaken" = some (some (.ref CT)))
    (xCT : K.lookup CT = some (excClassObj nmCT qCT CT NCT bsCT bmCT true snCT subCT abCT colCT ddCT m0CT m1CT m2CT m3CT m5CT "ValueError.__new__"))
    (bmvCT : PySem.HandSPX.refsVE bmCT = true)
    (saCT : PySem.W.findIn K (.ref CT) "__setattr__" = some (some (.builtin "object.__setattr__")))
    (e4CT : PySem.W.subIn K (.ref CT) (.type "BaseException") = some true)
    (e5CT : PySem.W.typeIn K (.ref CT) = some (.type "type"))
    (kpCT : PySem.W.keepIn K (.ref CT) = true)
    (e6CT : PySem.W.hasDictIn K CT = true)
    (noCT : PySem.W.findIn K (.ref CT) "name" = some none)
    (xaCT : PySem.W.findIn K (.ref CT) "__getattribute__" = some (some (.builtin "BaseException.__getattribute__")))
    (xgCT : PySem.W.findIn K (.ref CT) "__getattr__" = some none)
    (ssCT : PySem.W.subIn K (.ref CT) (.ref CT) = some true)
    (miTInit : PySem.W.findIn K (.ref CT) "__init__" = some (some (.ref fTInit)))
    (mjTInit : PySem.W.isFn K (.ref fTInit) = true)
    (mlTInit : K.lookup fTInit = some ⟨ocTInit, odTInit, .func (PySem.W.fnOf "__init__" "AccountTaken.__init__" (defArgs sTInit) (defBody sTInit) (defScope sTInit) .none kVTInit dcTInit pmTInit anTInit cdTInit ctTInit), slTInit⟩)
    (mcTInit : PySem.W.codeIn K cdTInit "AccountTaken.__init__" = true)
    (mkTInit : PySem.W.keepIn K (.ref fTInit) = true)
    (tyCT : PySem.W.typeIn K (.ref fTInit) = some (.type "function"))
    (gCR : PySem.W.nsIn K mainGlobals "Unbalanced" = some (some (.ref CR)))
    (xCR : K.lookup CR = some (excClassObj nmCR qCR CR NCR bsCR bmCR true snCR subCR abCR colCR ddCR m0CR m1CR m2CR m3CR m5CR "ValueError.__new__"))
    (bmvCR : PySem.HandSPX.refsVE bmCR = true)
    (saCR : PySem.W.findIn K (.ref CR) "__setattr__" = some (some (.builtin "object.__setattr__")))
    (e4CR : PySem.W.subIn K (.ref CR) (.type "BaseException") = some true)
    (e5CR : PySem.W.typeIn K (.ref CR) = some (.type "type"))
    (kpCR : PySem.W.keepIn K (.ref CR) = true)
    (e6CR : PySem.W.hasDictIn K CR = true)
    (noCR : PySem.W.findIn K (.ref CR) "rest" = some none)
    (xaCR : PySem.W.findIn K (.ref CR) "__getattribute__" = some (some (.builtin "BaseException.__getattribute__")))
    (xgCR : PySem.W.findIn K (.ref CR) "__getattr__" = some none)
    (ssCR : PySem.W.subIn K (.ref CR) (.ref CR) = some true)
    (miRInit : PySem.W.findIn K (.ref CR) "__init__" = some (some (.ref fRInit)))
    (mjRInit : PySem.W.isFn K (.ref fRInit) = true)
    (mlRInit : K.lookup fRInit = some ⟨ocRInit, odRInit, .func (PySem.W.fnOf "__init__" "Unbalanced.__init__" (defArgs sRInit) (defBody sRInit) (defScope sRInit) .none kVRInit dcRInit pmRInit anRInit cdRInit ctRInit), slRInit⟩)
    (mcRInit : PySem.W.codeIn K cdRInit "Unbalanced.__init__" = true)
    (mkRInit : PySem.W.keepIn K (.ref fRInit) = true)
    (tyCR : PySem.W.typeIn K (.ref fRInit) = some (.type "function"))
    (sED : PySem.W.subIn K (.ref CE) (.ref CD) = some false)
    (sRD : PySem.W.subIn K (.ref CR) (.ref CD) = some false)
    (sRE : PySem.W.subIn K (.ref CR) (.ref CE) = some false) :
    ∃ fd : FuncData, (∀ (s : Shared) (v : Value), BindsTo s fd ⟨[v], []⟩ [("script", v)]) ∧ ∀ base : Heap, K.In base → base.Ns mainGlobals mg → RunAt l.prog w K mg base fa fd ["script"] (spLawT K) := by
  have e := hfa.symm.trans (PySem.W.mg_of X G a2)
  cases e
  have z_len := PySem.W.mg_none_of X G y_len
  have z_int := PySem.W.mg_none_of X G y_int
  have z_abs := PySem.W.mg_none_of X G y_abs
  have z_range := PySem.W.mg_none_of X G y_range
  have z_isinstance := PySem.W.mg_none_of X G y_isinstance
  have z_list := PySem.W.mg_none_of X G y_list
  have z_repr := PySem.W.mg_none_of X G y_repr
  refine ⟨PySem.W.fnOf "law" "law" (defArgs sLaw) (defBody sLaw) (defScope sLaw) .none kV2 dc2 pm2 an2 cd2 ct2, fun s v => .of_eq rfl, fun base _ _ => ?_⟩
  have hZ : ∀ H, SqT K H zZ [.int 0, .int 1] := fun H => .inr ⟨_, #[.int 0 tk0, .int 1 tk1], nZ, lZ, rfl, rfl, by show 2 ≤ sizeLine; decide, .cons ⟨tk0, rfl⟩ (.cons ⟨tk1, rfl⟩ .nil)⟩
  have clCB : Cls K CB := ⟨pgCB, hdCB, poCB, saCB⟩
  have FBIni := fun_mk (st := sBIni) mlBIni mcBIni mkBIni
  have BBIni : Binds K _ ["self"] [] := FBIni.binds bdBIni
  have MBIni : Meth K CB "__init__" fBIni := ⟨miBIni, mjBIni, mkBIni⟩
  have FBLat := fun_mk (st := sBLat) mlBLat mcBLat mkBLat
  have BBLat : Binds K _ ["self"] [] := FBLat.binds bdBLat
  have MBLat : PropOf K CB "latest_day" pBLat fBLat := ⟨miBLat, mgBLat, mtBLat, _, mrBLat⟩
  have FBOpn := fun_mk (st := sBOpn) mlBOpn mcBOpn mkBOpn
  have BBOpn : Binds K _ ["self", "name"] [] := FBOpn.binds bdBOpn
  have MBOpn : Meth K CB "open_account" fBOpn := ⟨miBOpn, mjBOpn, mkBOpn⟩
  have FBPst := fun_mk (st := sBPst) mlBPst mcBPst mkBPst
  have BBPst : Binds K _ ["self", "day", "entries"] [] := FBPst.binds bdBPst
  have MBPst : Meth K CB "post" fBPst := ⟨miBPst, mjBPst, mkBPst⟩
  have FBBal := fun_mk (st := sBBal) mlBBal mcBBal mkBBal
  have BBBal : Binds K _ ["self", "name"] [] := FBBal.binds bdBBal
  have MBBal : Meth K CB "balance" fBBal := ⟨miBBal, mjBBal, mkBBal⟩
  have FBBalOn := fun_mk (st := sBBalOn) mlBBalOn mcBBalOn mkBBalOn
  have BBBalOn : Binds K _ ["self", "name", "day"] [] := FBBalOn.binds bdBBalOn
  have MBBalOn : Meth K CB "balance_on" fBBalOn := ⟨miBBalOn, mjBBalOn, mkBBalOn⟩
  have FBStm := fun_mk (st := sBStm) mlBStm mcBStm mkBStm
  have BBStm : Binds K _ ["self", "name"] [] := FBStm.binds bdBStm
  have MBStm : Meth K CB "statement" fBStm := ⟨miBStm, mjBStm, mkBStm⟩
  have FBAcc := fun_mk (st := sBAcc) mlBAcc mcBAcc mkBAcc
  have BBAcc : Binds K _ ["self"] [] := FBAcc.binds bdBAcc
  have MBAcc : Meth K CB "accounts" fBAcc := ⟨miBAcc, mjBAcc, mkBAcc⟩
  have FBPos := fun_mk (st := sBPos) mlBPos mcBPos mkBPos
  have BBPos : Binds K _ ["self"] [] := FBPos.binds bdBPos
  have MBPos : Meth K CB "postings" fBPos := ⟨miBPos, mjBPos, mkBPos⟩
  have FBChk := fun_mk (st := sBChk) mlBChk mcBChk mkBChk
  have BBChk : Binds K _ ["self", "name"] [] := FBChk.binds bdBChk
  have MBChk : Meth K CB "_check" fBChk := ⟨miBChk, mjBChk, mkBChk⟩
  have MkCB : Mk K CB fBIni := ⟨mkCB, miBIni, mjBIni, kcCB⟩
  have FUInit := fun_mk (st := sUInit) mlUInit mcUInit mkUInit
  have BUInit : Binds K _ ["self", "name"] [] := FUInit.binds bdUInit
  have MUInit : Meth K CE "__init__" fUInit := ⟨miUInit, mjUInit, mkUInit⟩
  have OXCE : OexC K CE := ⟨⟨nmCE, qCE, NCE, bsCE, bmCE, snCE, subCE, abCE, colCE, ddCE, m0CE, m1CE, m2CE, m3CE, m5CE, xCE, bmvCE⟩, saCE, e4CE, e5CE, kpCE⟩
  have XFCE : XfC K CE := ⟨xaCE, xgCE, e4CE, e6CE⟩
  have EXCE : PySem.W.exmOne K (.ref CE) (.ref CE) = some true := PySem.W.exm_ref e4CE e6CE e5CE ssCE
  have FTInit := fun_mk (st := sTInit) mlTInit mcTInit mkTInit
  have BTInit : Binds K _ ["self", "name"] [] := FTInit.binds bdTInit
  have MTInit : Meth K CT "__init__" fTInit := ⟨miTInit, mjTInit, mkTInit⟩
  have OXCT : OexC K CT := ⟨⟨nmCT, qCT, NCT, bsCT, bmCT, snCT, subCT, abCT, colCT, ddCT, m0CT, m1CT, m2CT, m3CT, m5CT, xCT, bmvCT⟩, saCT, e4CT, e5CT, kpCT⟩
  have XFCT : XfC K CT := ⟨xaCT, xgCT, e4CT, e6CT⟩
  have EXCT : PySem.W.exmOne K (.ref CT) (.ref CT) = some true := PySem.W.exm_ref e4CT e6CT e5CT ssCT
  have FRInit := fun_mk (st := sRInit) mlRInit mcRInit mkRInit
  have BRInit : Binds K _ ["self", "rest"] [] := FRInit.binds bdRInit
  have MRInit : Meth K CR "__init__" fRInit := ⟨miRInit, mjRInit, mkRInit⟩
  have OXCR : OexC K CR := ⟨⟨nmCR, qCR, NCR, bsCR, bmCR, snCR, subCR, abCR, colCR, ddCR, m0CR, m1CR, m2CR, m3CR, m5CR, xCR, bmvCR⟩, saCR, e4CR, e5CR, kpCR⟩
  have XFCR : XfC K CR := ⟨xaCR, xgCR, e4CR, e6CR⟩
  have EXCR : PySem.W.exmOne K (.ref CR) (.ref CR) = some true := PySem.W.exm_ref e4CR e6CR e5CR ssCR
  have BC : BkC K CB := ⟨clCB, naCB0, naCB1⟩
  have EC : ErrC K mg "InvalidDay" CD := ⟨PySem.W.mg_of X G gCD, xCD, kpCD, e4CD, e5CD⟩
  have UC : X1 l.prog w K mg base "UnknownAccount" "name" CE fUInit _ := ⟨PySem.W.mg_of X G gCE, OXCE, noCE, miUInit, tyCE, ok_UInit (k := 0) FUInit, BUInit⟩
  have TC : X1 l.prog w K mg base "AccountTaken" "name" CT fTInit _ := ⟨PySem.W.mg_of X G gCT, OXCT, noCT, miTInit, tyCT, ok_TInit (k := 0) FTInit, BTInit⟩
  have RC : X1 l.prog w K mg base "Unbalanced" "rest" CR fRInit _ := ⟨PySem.W.mg_of X G gCR, OXCR, noCR, miRInit, tyCR, ok_RInit (k := 0) FRInit, BRInit⟩
  have TX : ToldC K mg CD CE CR CO := ⟨PySem.W.mg_of X G gCD, PySem.W.mg_of X G gCE, PySem.W.mg_of X G gCR, PySem.W.mg_of X G gCO, XFCE, noCE, XFCR, noCR, PySem.W.exm_ref e4CD e6CD e5CD ssCD, PySem.W.exm_ref e4CD e6CD e5CD sED, EXCE, PySem.W.exm_ref e4CD e6CD e5CD sRD, PySem.W.exm_ref e4CE e6CE e5CE sRE, EXCR⟩
  have OX : OpC K mg CT CO := ⟨PySem.W.mg_of X G gCT, PySem.W.mg_of X G gCO, XFCT, noCT, EXCT⟩
  have m_Z := PySem.W.mg_of X G yZ
  obtain ⟨cFraction, cFraction1⟩ := Cal.ofD (P := l.prog) (w := w) (base := base) (k := 1) (sp := spFrac) gFraction fun F => ok_fraction (k := 0) F (PySem.W.mg_of X G y_gcd)
  have cPlus : Cal l.prog w K mg base 2 "plus" ["a", "b"] (spPlus K) := Cal.of gPlus fun F => ok_plus (k := 1) F cFraction
  have cTotal : Cal l.prog w K mg base 3 "total" ["values"] (spTotal K) := Cal.of gTotal fun F => ok_total (k := 2) F cPlus m_Z hZ
  have c_check : CalM l.prog w K mg base 1 CB "_check" ["self", "name"] (spChk K CB) := ⟨_, _, MBChk, ok_chk (k := 0) FBChk BC, BBChk⟩
  have cx_check : CalMX l.prog w K mg base 3 CB "_check" ["self", "name"] (spChkU K CB CE) := ⟨_, _, MBChk, ok_chkU (k := 0) FBChk BC UC, BBChk⟩
  have c_balance : CalM l.prog w K mg base 2 CB "balance" ["self", "name"] (spBal K CB) := ⟨_, _, MBBal, ok_balance (k := 1) FBBal BC c_check m_Z hZ, BBBal⟩
  have c_balance_on : CalM l.prog w K mg base 2 CB "balance_on" ["self", "name", "day"] (spOn K CB) := ⟨_, _, MBBalOn, ok_balance_on (k := 1) FBBalOn BC c_check m_Z hZ, BBBalOn⟩
  have c_statement : CalM l.prog w K mg base 2 CB "statement" ["self", "name"] (spStm K CB) := ⟨_, _, MBStm, ok_statement (k := 1) FBStm BC c_check z_list, BBStm⟩
  have c_accounts : CalM l.prog w K mg base 1 CB "accounts" ["self"] (spAcc K CB) := ⟨_, _, MBAcc, ok_accounts (k := 0) FBAcc BC z_list, BBAcc⟩
  have c_postings : CalM l.prog w K mg base 1 CB "postings" ["self"] (spPos K CB) := ⟨_, _, MBPos, ok_postings (k := 0) FBPos BC z_list, BBPos⟩
  have c_postingsN : CalM l.prog w K mg base 1 CB "postings" ["self"] (spPosN K CB) := ⟨_, _, MBPos, ok_postingsN (k := 0) FBPos BC z_list, BBPos⟩
  have cx_open : CalMX l.prog w K mg base 3 CB "open_account" ["self", "name"] (spOpnU K CB CT) := ⟨_, _, MBOpn, FnOk.or (FnOk.toX ((ok_open (k := 0) FBOpn BC).mono (by decide))) (ok_openE (k := 0) FBOpn BC TC), BBOpn⟩
  have c_latest : CalP l.prog w K mg base 1 CB "latest_day" (spLat K CB) := ⟨_, _, _, MBLat, ok_latest (k := 0) FBLat BC, BBLat⟩
  have cx_post : CalMX l.prog w K mg base 4 CB "post" ["self", "day", "entries"] (spPstU K CB CD CE CR) := ⟨_, _, MBPst, FnOk.or (FnOk.toX (ok_postG (k := 2) FBPst BC (c_check.mono (by decide)) c_balance (c_latest.mono (by decide)) (cPlus.mono (by decide)) cTotal m_Z hZ z_list z_len)) (FnOk.or (ok_postD (CE := CE) (k := 2) FBPst BC EC (c_latest.mono (by decide))) (FnOk.or (ok_postA (k := 2) FBPst BC (c_latest.mono (by decide)) cx_check (cPlus.mono (by decide)) EC m_Z hZ) (ok_postR (k := 2) (by decide) FBPst BC (c_latest.mono (by decide)) cx_check (cPlus.mono (by decide)) cTotal EC RC m_Z hZ z_list))), BBPst⟩
  have cState : Cal l.prog w K mg base 1 "_law_state" ["script"] (spStateA K) := Cal.of gState fun F => ok_state (k := 0) F z_list
  have cDraw : Cal l.prog w K mg base 1 "_law_draw" ["state", "many"] (spDrawSA K) := Cal.of gDraw fun F => ok_drawS (k := 0) F z_len z_int
  have cLowest : Cal l.prog w K mg base 1 "_law_lowest" ["p", "q"] spLow := Cal.of gLowest fun F => ok_lowest (k := 0) F z_range z_int z_abs
  have cLMinus : Cal l.prog w K mg base 2 "_law_minus" ["a", "b"] (spLMinus K) := Cal.of gLMinus fun F => ok_lminus (k := 1) F cLowest
  have cLPlus : Cal l.prog w K mg base 2 "_law_plus" ["a", "b"] (spLPlus K) := Cal.of gLPlus fun F => ok_lplus (k := 1) F cLowest
  have cLFrac : Cal l.prog w K mg base 2 "_law_fraction" ["state"] (spLFracD K) := Cal.of gLFrac fun F => ok_lfracD (k := 1) F (cDraw.mono (by decide)) cLowest
  have cLSum : Cal l.prog w K mg base 3 "_law_sum" ["values"] (spLSum K) := Cal.of gLSum fun F => ok_lsum (k := 2) F cLPlus
  have cLDue : Cal l.prog w K mg base 4 "_law_due" ["accounts", "postings", "day", "entries"] (spLDue K) := Cal.of gLDue fun F => ok_ldue (k := 3) F cLSum z_len
  have cLStm : Cal l.prog w K mg base 4 "_law_statement" ["postings", "wanted"] (spLStm K) := Cal.of gLStm fun F => ok_lstm (k := 3) F cLSum (cLPlus.mono (by decide)) z_len z_range
  have cLBal : Cal l.prog w K mg base 5 "_law_balance" ["postings", "wanted", "day"] (spLBal K) := Cal.of gLBal fun F => ok_lbal (k := 4) F cLStm
  have cLIs : Cal l.prog w K mg base 7 "_law_is_state" ["books", "accounts", "postings"] (spLIs K CB) := Cal.of gLIs fun F => ok_lis (k := 5) F BC (cLSum.mono (by decide)) (cLStm.mono (by decide)) cLBal (c_balance.mono (by decide)) (c_balance_on.mono (by decide)) (c_statement.mono (by decide)) (c_accounts.mono (by decide)) (c_postings.mono (by decide)) (c_latest.mono (by decide)) z_len
  have cLTold : Cal l.prog w K mg base 5 "_law_told" ["books", "day", "entries"] (spTold K CB) := Cal.of gLTold fun F => ok_told (k := 4) F BC TX cx_post
  have cLOpen : Cal l.prog w K mg base 4 "_law_open" ["books", "accounts", "name"] (spLOpen K CB) := Cal.of gLOpen fun F => ok_lopen (k := 3) F BC OX cx_open
  have cLEn : Cal l.prog w K mg base 4 "_law_entries" ["state"] (spLEn K) := Cal.of gLEn fun F => ok_len (k := 3) F (cDraw.mono (by decide)) (cLFrac.mono (by decide)) cLSum (cLMinus.mono (by decide)) z_range z_int
  have MB : MkBk l.prog w K mg base 6 CB fBIni _ := ⟨MkCB, (ok_bini (k := 0) FBIni BC).mono (by decide), PySem.W.mg_of X G gCB, BBIni⟩
  exact ok_law (k := 6) ⟨rfl, by decide, by decide⟩ (fun_mk (st := sLaw) l2 c2 k2) BC MB (cState.mono (by decide)) (cDraw.mono (by decide)) (cLOpen.mono (by decide)) (cLTold.mono (by decide)) (cLDue.mono (by decide)) (cLEn.mono (by decide)) cLIs (c_postingsN.mono (by decide)) z_list z_isinstance z_range z_len z_int z_repr
end Cs
open PySem PySem.W PyProof.Rows
set_option maxHeartbeats 0 in
theorem PySem.Challenge.cw_consol_k57_books_of_postings_holds : PySem.Challenge.rw_consol_k57_books_of_postings.Holds := by
  w_on; o_law; k_head; (case hw => w_witness2)
  k_fill
  refine Cs.walk_ofA (l := PySem.Challenge.rw_consol_k57_books_of_postings) (n := 63) (x := "script") (sp := fun w => Cs.spLawT _) rfl (by decide) rfl (fun w h Y => PySem.W.kIn_of Y) ?F (fun _ _ a ns hl hS => Cs.spL_in hS fun _ => rfl)
  case F =>
    intro w mg fa h KX G hmg
    refine' Cs.all_mk KX G hmg (Cs.FunG.mk Cs.bdPlus KX G ?a0 ?l0 ?c0 ?k0) (Cs.FunG.mk Cs.bdTotal KX G ?a1 ?l1 ?c1 ?k1) (Cs.FunG.mk Cs.bdState KX G ?a2 ?l2 ?c2 ?k2) (Cs.FunG.mk Cs.bdDraw KX G ?a3 ?l3 ?c3 ?k3) (Cs.FunG.mk Cs.bdLowest KX G ?a4 ?l4 ?c4 ?k4) (Cs.FunG.mk Cs.bdLMinus KX G ?a5 ?l5 ?c5 ?k5) (Cs.FunG.mk Cs.bdLPlus KX G ?a6 ?l6 ?c6 ?k6) (Cs.FunG.mk Cs.bdLFrac KX G ?a7 ?l7 ?c7 ?k7) (Cs.FunG.mk Cs.bdLSum KX G ?a8 ?l8 ?c8 ?k8) (Cs.FunG.mk Cs.bdLDue KX G ?a9 ?l9 ?c9 ?k9) (Cs.FunG.mk Cs.bdLStm KX G ?a10 ?l10 ?c10 ?k10) (Cs.FunG.mk Cs.bdLBal KX G ?a11 ?l11 ?c11 ?k11) (Cs.FunG.mk Cs.bdLIs KX G ?a12 ?l12 ?c12 ?k12) (Cs.FunG.mk Cs.bdLTold KX G ?a13 ?l13 ?c13 ?k13) (Cs.FunG.mk Cs.bdLOpen KX G ?a14 ?l14 ?c14 ?k14) (Cs.FunG.mk Cs.bdLEn KX G ?a15 ?l15 ?c15 ?k15) (Cs.FunDG.mk 1 Cs.bdFraction0 Cs.bdFraction1 KX G ?aD0 ?lD0 ?cD0 ?kD0 ?tD0 (by simp) ?vD0 rfl) ?aLw ?lLw ?cLw ?kLw ?y_len ?y_int ?y_abs ?y_range ?y_isinstance ?y_list ?y_repr ?y_gcd ?yZ ?lZ ?gCO ?gCD ?xCD ?kpCD ?e4CD ?e5CD ?e6CD ?ssCD ?gCB ?pgCB ?hdCB ?poCB ?saCB ?mkCB ?kcCB ?naCB0 ?naCB1 ?miBIni ?mjBIni ?mlBIni ?mcBIni ?mkBIni ?miBLat ?mgBLat ?mtBLat ?mrBLat ?mlBLat ?mcBLat ?mkBLat ?miBOpn ?mjBOpn ?mlBOpn ?mcBOpn ?mkBOpn ?miBPst ?mjBPst ?mlBPst ?mcBPst ?mkBPst ?miBBal ?mjBBal ?mlBBal ?mcBBal ?mkBBal ?miBBalOn ?mjBBalOn ?mlBBalOn ?mcBBalOn ?mkBBalOn ?miBStm ?mjBStm ?mlBStm ?mcBStm ?mkBStm ?miBAcc ?mjBAcc ?mlBAcc ?mcBAcc ?mkBAcc ?miBPos ?mjBPos ?mlBPos ?mcBPos ?mkBPos ?miBChk ?mjBChk ?mlBChk ?mcBChk ?mkBChk ?gCE ?xCE ?bmvCE ?saCE ?e4CE ?e5CE ?kpCE ?e6CE ?noCE ?xaCE ?xgCE ?ssCE ?miUInit ?mjUInit ?mlUInit ?mcUInit ?mkUInit ?tyCE ?gCT ?xCT ?bmvCT ?saCT ?e4CT ?e5CT ?kpCT ?e6CT ?noCT ?xaCT ?xgCT ?ssCT ?miTInit ?mjTInit ?mlTInit ?mcTInit ?mkTInit ?tyCT ?gCR ?xCR ?bmvCR ?saCR ?e4CR ?e5CR ?kpCR ?e6CR ?noCR ?xaCR ?xgCR ?ssCR ?miRInit ?mjRInit ?mlRInit ?mcRInit ?mkRInit ?tyCR ?sED ?sRD ?sRE
    (case a0 => k_is)
    (case l0 => k_is)
    (case c0 => k_is)
    (case k0 => k_is)
    (case a1 => k_is)
    (case l1 => k_is)
    (case c1 => k_is)
    (case k1 => k_is)
    (case a2 => k_is)
    (case l2 => k_is)
    (case c2 => k_is)
    (case k2 => k_is)
    (case a3 => k_is)
    (case l3 => k_is)
    (case c3 => k_is)
    (case k3 => k_is)
    (case a4 => k_is)
    (case l4 => k_is)
    (case c4 => k_is)
    (case k4 => k_is)
    (case a5 => k_is)
    (case l5 => k_is)
    (case c5 => k_is)
    (case k5 => k_is)
    (case a6 => k_is)
    (case l6 => k_is)
    (case c6 => k_is)
    (case k6 => k_is)
    (case a7 => k_is)
    (case l7 => k_is)
    (case c7 => k_is)
    (case k7 => k_is)
    (case a8 => k_is)
    (case l8 => k_is)
    (case c8 => k_is)
    (case k8 => k_is)
    (case a9 => k_is)
    (case l9 => k_is)
    (case c9 => k_is)
    (case k9 => k_is)
    (case a10 => k_is)
    (case l10 => k_is)
    (case c10 => k_is)
    (case k10 => k_is)
    (case a11 => k_is)
    (case l11 => k_is)
    (case c11 => k_is)
    (case k11 => k_is)
    (case a12 => k_is)
    (case l12 => k_is)
    (case c12 => k_is)
    (case k12 => k_is)
    (case a13 => k_is)
    (case l13 => k_is)
    (case c13 => k_is)
    (case k13 => k_is)
    (case a14 => k_is)
    (case l14 => k_is)
    (case c14 => k_is)
    (case k14 => k_is)
    (case a15 => k_is)
    (case l15 => k_is)
    (case c15 => k_is)
    (case k15 => k_is)
    (case aD0 => k_is)
    (case lD0 => k_is)
    (case cD0 => k_is)
    (case kD0 => k_is)
    (case tD0 => k_is)
    (case vD0 => exact (.cons ⟨_, rfl⟩ .nil))
    (case aLw => k_is)
    (case lLw => k_is)
    (case cLw => k_is)
    (case kLw => k_is)
    (case y_len => k_is)
    (case y_int => k_is)
    (case y_abs => k_is)
    (case y_range => k_is)
    (case y_isinstance => k_is)
    (case y_list => k_is)
    (case y_repr => k_is)
    (case y_gcd => k_is)
    (case yZ => k_is)
    (case lZ => k_is)
    (case gCO => k_is)
    (case gCD => k_is)
    (case xCD => k_exc)
    (case kpCD => k_is)
    (case e4CD => k_is)
    (case e5CD => k_is)
    (case e6CD => k_is)
    (case ssCD => first | rfl | k_is)
    (case gCB => k_is)
    (case pgCB => k_is)
    (case hdCB => k_is)
    (case poCB => k_is)
    (case saCB => k_is)
    (case mkCB => k_is)
    (case kcCB => k_is)
    (case naCB0 => k_is)
    (case naCB1 => k_is)
    (case miBIni => k_is)
    (case mjBIni => k_is)
    (case mlBIni => k_is)
    (case mcBIni => k_is)
    (case mkBIni => k_is)
    (case miBLat => k_is)
    (case mgBLat => k_is)
    (case mtBLat => k_is)
    (case mrBLat => k_is)
    (case mlBLat => k_is)
    (case mcBLat => k_is)
    (case mkBLat => k_is)
    (case miBOpn => k_is)
    (case mjBOpn => k_is)
    (case mlBOpn => k_is)
    (case mcBOpn => k_is)
    (case mkBOpn => k_is)
    (case miBPst => k_is)
    (case mjBPst => k_is)
    (case mlBPst => k_is)
    (case mcBPst => k_is)
    (case mkBPst => k_is)
    (case miBBal => k_is)
    (case mjBBal => k_is)
    (case mlBBal => k_is)
    (case mcBBal => k_is)
    (case mkBBal => k_is)
    (case miBBalOn => k_is)
    (case mjBBalOn => k_is)
    (case mlBBalOn => k_is)
    (case mcBBalOn => k_is)
    (case mkBBalOn => k_is)
    (case miBStm => k_is)
    (case mjBStm => k_is)
    (case mlBStm => k_is)
    (case mcBStm => k_is)
    (case mkBStm => k_is)
    (case miBAcc => k_is)
    (case mjBAcc => k_is)
    (case mlBAcc => k_is)
    (case mcBAcc => k_is)
    (case mkBAcc => k_is)
    (case miBPos => k_is)
    (case mjBPos => k_is)
    (case mlBPos => k_is)
    (case mcBPos => k_is)
    (case mkBPos => k_is)
    (case miBChk => k_is)
    (case mjBChk => k_is)
    (case mlBChk => k_is)
    (case mcBChk => k_is)
    (case mkBChk => k_is)
    (case gCE => k_is)
    (case xCE => k_is)
    (case bmvCE => first | rfl | decide)
    (case saCE => k_is)
    (case e4CE => k_is)
    (case e5CE => k_is)
    (case kpCE => k_is)
    (case e6CE => k_is)
    (case noCE => k_is)
    (case xaCE => k_is)
    (case xgCE => k_is)
    (case ssCE => first | rfl | k_is)
    (case miUInit => k_is)
    (case mjUInit => k_is)
    (case mlUInit => k_is)
    (case mcUInit => k_is)
    (case mkUInit => k_is)
    (case tyCE => k_is)
    (case gCT => k_is)
    (case xCT => k_is)
    (case bmvCT => first | rfl | decide)
    (case saCT => k_is)
    (case e4CT => k_is)
    (case e5CT => k_is)
    (case kpCT => k_is)
    (case e6CT => k_is)
    (case noCT => k_is)
    (case xaCT => k_is)
    (case xgCT => k_is)
    (case ssCT => first | rfl | k_is)
    (case miTInit => k_is)
    (case mjTInit => k_is)
    (case mlTInit => k_is)
    (case mcTInit => k_is)
    (case mkTInit => k_is)
    (case tyCT => k_is)
    (case gCR => k_is)
    (case xCR => k_is)
    (case bmvCR => first | rfl | decide)
    (case saCR => k_is)
    (case e4CR => k_is)
    (case e5CR => k_is)
    (case kpCR => k_is)
    (case e6CR => k_is)
    (case noCR => k_is)
    (case xaCR => k_is)
    (case xgCR => k_is)
    (case ssCR => first | rfl | k_is)
    (case miRInit => k_is)
    (case mjRInit => k_is)
    (case mlRInit => k_is)
    (case mcRInit => k_is)
    (case mkRInit => k_is)
    (case tyCR => k_is)
    (case sED => k_is)
    (case sRD => k_is)
    (case sRE => k_is)
