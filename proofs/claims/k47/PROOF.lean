import PyProof.Rows.All
import Wide.All
import OpenK.AllK
import Wide.FinOn
import HandS.ForMost
import HandS.Wide
import HandS.Gcd
import HandS.IsInst
import HandS.Defaults
import HandS.EndBits
import HandS.ForExc
import HandS.ExcIs
import HandS.Zip
import HandS.TupLe
import HandS.TryMany
import HandS.CallLocal
import HandS.CallSlots
import KE.KTupSum
import HandS.Walk
import HandS.ExcInit
import HandS.Star
import PySem.Challenge.RW_consol_k47_rows_of_causes_of_defaults
import HandS.Dict
import HandS.DictComp
import HandS.MakeKwOnly
import HandS.Rev
import HandS.RevTup
import KE.KRevIter
import PyProof.ListNew
import HandS.ExcField
import HandS.Property
import HandS.More
import HandS.Iter
import PyProof.ReprRoads
import PyProof.ReprBulk
import PyProof.FitsInt
import PyProof.DictMoreH
import KE.KDictWalk
import KE.KDictCopyH
import HandS.Conv
import KE.SortKeyHeap
import HandS.SortKw
set_option Elab.async false
set_option linter.all false
set_option maxRecDepth 100000
set_option exponentiation.threshold 20000
namespace Cs
/-- the pair a fraction is -/
theorem divInt_pos (p q : Int) (hq : 0 < q) : (Rat.divInt p q).num = p / (Nat.gcd p.natAbs q.natAbs : Nat) ∧ ((Rat.divInt p q).den : Int) = q / (Nat.gcd p.natAbs q.natAbs : Nat) := by
  obtain ⟨n, rfl⟩ : ∃ n : Nat, q = (n : Int) := ⟨q.toNat, by omega⟩
  have hn : n ≠ 0 := by omega
  have e : Rat.divInt p (n : Int) = Rat.normalize p n hn := by
    rw [Rat.divInt_ofNat, ← Rat.normalize_eq_mkRat]
  rw [e, Rat.normalize_eq]
  refine ⟨rfl, ?_⟩
  show ((n / Nat.gcd p.natAbs n : Nat) : Int) = (n : Int) / (Nat.gcd p.natAbs (n : Int).natAbs : Nat)
  rw [Int.natAbs_natCast, Int.natCast_ediv]
theorem neg_ediv_dvd {a g : Int} (h : g ∣ a) : (-a) / g = -(a / g) := by
  obtain ⟨k, rfl⟩ := h
  by_cases hg : g = 0
  · subst hg; simp
  · rw [← Int.mul_neg, Int.mul_ediv_cancel_left _ hg, Int.mul_ediv_cancel_left _ hg]
theorem fdiv_neg_dvd {a g : Int} (hg : 0 < g) (h : g ∣ a) : a.fdiv (-g) = -(a / g) := by
  rw [Int.fdiv_neg (by omega), if_pos h, Int.fdiv_eq_ediv_of_nonneg _ (by omega)]
theorem gcd_dvd_p (p q : Int) : ((Nat.gcd p.natAbs q.natAbs : Nat) : Int) ∣ p := Int.ofNat_dvd_left.mpr (Nat.gcd_dvd_left _ _)
theorem gcd_dvd_q (p q : Int) : ((Nat.gcd p.natAbs q.natAbs : Nat) : Int) ∣ q := Int.ofNat_dvd_left.mpr (Nat.gcd_dvd_right _ _)
theorem gcd_pos (p q : Int) (hq : q ≠ 0) : 0 < ((Nat.gcd p.natAbs q.natAbs : Nat) : Int) := by
  have : 0 < Nat.gcd p.natAbs q.natAbs := Nat.gcd_pos_of_pos_right _ (by omega)
  omega
/-- what fraction computes -/
theorem frac_num (p q : Int) (hq : q ≠ 0) : (p.fdiv (if q < 0 then -((Nat.gcd p.natAbs q.natAbs : Nat) : Int) else ((Nat.gcd p.natAbs q.natAbs : Nat) : Int))) = (Rat.divInt p q).num := by
  have hg := gcd_pos p q hq
  split
  · rename_i h
    rw [fdiv_neg_dvd hg (gcd_dvd_p p q)]
    have e : Rat.divInt p q = Rat.divInt (-p) (-q) := by rw [Rat.neg_divInt_neg]
    rw [e, (divInt_pos (-p) (-q) (by omega)).1, Int.natAbs_neg, Int.natAbs_neg, neg_ediv_dvd (gcd_dvd_p p q)]
  · rename_i h
    rw [(divInt_pos p q (by omega)).1, Int.fdiv_eq_ediv_of_nonneg _ (by omega)]
theorem frac_den (p q : Int) (hq : q ≠ 0) : (q.fdiv (if q < 0 then -((Nat.gcd p.natAbs q.natAbs : Nat) : Int) else ((Nat.gcd p.natAbs q.natAbs : Nat) : Int))) = ((Rat.divInt p q).den : Int) := by
  have hg := gcd_pos p q hq
  split
  · rename_i h
    rw [fdiv_neg_dvd hg (gcd_dvd_q p q)]
    have e : Rat.divInt p q = Rat.divInt (-p) (-q) := by rw [Rat.neg_divInt_neg]
    rw [e, (divInt_pos (-p) (-q) (by omega)).2, Int.natAbs_neg, Int.natAbs_neg, neg_ediv_dvd (gcd_dvd_q p q)]
  · rename_i h
    rw [(divInt_pos p q (by omega)).2, Int.fdiv_eq_ediv_of_nonneg _ (by omega)]
/-! sizes -/
def Sz (n : Nat) (r : Rat) : Prop := r.num.natAbs < 2 ^ n ∧ r.den < 2 ^ n
theorem Sz.mono {n m : Nat} {r : Rat} (h : Sz n r) (k : n ≤ m) : Sz m r :=
  ⟨Nat.lt_of_lt_of_le h.1 (Nat.pow_le_pow_right (by decide) k), Nat.lt_of_lt_of_le h.2 (Nat.pow_le_pow_right (by decide) k)⟩
theorem sz_div {n : Nat} {p q : Int} (hq : q ≠ 0) (hp : p.natAbs < 2 ^ n) (h : q.natAbs < 2 ^ n) : Sz n (Rat.divInt p q) := by
  have hg := gcd_pos p q hq
  have key : ∀ p q : Int, 0 < q → p.natAbs < 2 ^ n → q.natAbs < 2 ^ n → Sz n (Rat.divInt p q) := by
    intro p q hq hp h
    have e1 := (divInt_pos p q hq).1
    have e2 := (divInt_pos p q hq).2
    refine ⟨?_, ?_⟩
    · rw [e1]
      refine Nat.lt_of_le_of_lt ?_ hp
      rw [Int.natAbs_ediv_of_dvd (gcd_dvd_p p q)]
      exact Nat.div_le_self _ _
    · have : (Rat.divInt p q).den = q.natAbs / (Nat.gcd p.natAbs q.natAbs) := by
        have : (((Rat.divInt p q).den : Int)).natAbs = (q / (Nat.gcd p.natAbs q.natAbs : Nat)).natAbs := by rw [e2]
        rw [Int.natAbs_natCast, Int.natAbs_ediv_of_dvd (gcd_dvd_q p q), Int.natAbs_natCast] at this
        exact this
      rw [this]
      exact Nat.lt_of_le_of_lt (Nat.div_le_self _ _) h
  by_cases hn : q < 0
  · have e : Rat.divInt p q = Rat.divInt (-p) (-q) := by rw [Rat.neg_divInt_neg]
    rw [e]
    exact key _ _ (by omega) (by rw [Int.natAbs_neg]; exact hp) (by rw [Int.natAbs_neg]; exact h)
  · exact key p q (by omega) hp h
theorem pow_lt {i j : Int} {a b : Nat} (ha : i.natAbs < 2 ^ a) (hb : j.natAbs < 2 ^ b) : (i * j).natAbs < 2 ^ (a + b) := by
  rw [Int.natAbs_mul, Nat.pow_add]
  exact Nat.mul_lt_mul'' ha hb
theorem add_lt {i j : Int} {a : Nat} (ha : i.natAbs < 2 ^ a) (hb : j.natAbs < 2 ^ a) : (i + j).natAbs < 2 ^ (a + 1) := by
  have : (2 : Nat) ^ (a + 1) = 2 ^ a * 2 := Nat.pow_succ ..
  omega
theorem sub_lt {i j : Int} {a : Nat} (ha : i.natAbs < 2 ^ a) (hb : j.natAbs < 2 ^ a) : (i - j).natAbs < 2 ^ (a + 1) := by
  have : (2 : Nat) ^ (a + 1) = 2 ^ a * 2 := Nat.pow_succ ..
  omega
theorem den_ne (r : Rat) : (r.den : Int) ≠ 0 := by have := r.den_nz; omega
theorem den_pos (r : Rat) : 0 < (r.den : Int) := by have := r.den_nz; omega
theorem add_div (r s : Rat) : Rat.divInt (r.num * s.den + s.num * r.den) (r.den * s.den) = r + s := by
  rw [← Rat.divInt_add_divInt _ _ (den_ne r) (den_ne s), Rat.num_divInt_den, Rat.num_divInt_den]
theorem sub_div (r s : Rat) : Rat.divInt (r.num * s.den - s.num * r.den) (r.den * s.den) = r - s := by
  rw [← Rat.divInt_sub_divInt _ _ (den_ne r) (den_ne s), Rat.num_divInt_den, Rat.num_divInt_den]
theorem mul_div (r s : Rat) : Rat.divInt (r.num * s.num) (r.den * s.den) = r * s := by
  rw [← Rat.divInt_mul_divInt, Rat.num_divInt_den, Rat.num_divInt_den]
theorem div_div (r s : Rat) : Rat.divInt (r.num * s.den) (r.den * s.num) = r / s := by
  rw [Rat.div_def, ← Rat.divInt_mul_divInt, Rat.num_divInt_den]
  rw [Rat.inv_def]
theorem num_ne {s : Rat} (h : s.num ≠ 0) : s ≠ 0 := fun e => h (by rw [e]; rfl)
/-! Euclid's steps -/
def EG (g : Nat) (N i : Nat) (a b : Nat) : Prop := Nat.gcd a b = g ∧ (i = 0 → a * b < 2 ^ N) ∧ (0 < i → b < a ∧ a * b < 2 ^ (N + 1 - i))
theorem EG.start {N a b : Nat} (h : a * b < 2 ^ N) : EG (Nat.gcd a b) N 0 a b := ⟨rfl, fun _ => h, fun z => absurd z (by decide)⟩
theorem EG.step {g N i a b : Nat} (h : EG g N i a b) (hb : 0 < b) (hi : i ≤ N) : EG g N (i + 1) b (a % b) := by
  obtain ⟨h1, h2, h3⟩ := h
  have hlt : a % b < b := Nat.mod_lt _ hb
  refine ⟨?_, fun z => absurd z (by omega), fun _ => ⟨hlt, ?_⟩⟩
  · rw [← h1, Nat.gcd_comm a b, Nat.gcd_rec b a, Nat.gcd_comm]
  · by_cases h0 : i = 0
    · subst h0
      have e := h2 rfl
      rw [show N + 1 - (0 + 1) = N by omega]
      refine Nat.lt_of_le_of_lt ?_ e
      rw [Nat.mul_comm a b]
      exact Nat.mul_le_mul_left _ (Nat.mod_le _ _)
    · obtain ⟨hba, hp⟩ := h3 (by omega)
      have e1 : N + 1 - i = (N + 1 - (i + 1)) + 1 := by omega
      rw [e1, Nat.pow_succ] at hp
      have hd := Nat.div_add_mod a b
      have hq : 1 ≤ a / b := Nat.div_pos (Nat.le_of_lt hba) hb
      have ha : b + a % b ≤ a := by
        have : b * 1 ≤ b * (a / b) := Nat.mul_le_mul_left _ hq
        omega
      have : b * (a % b) * 2 ≤ a * b := by
        have h5 : b * (a % b) + b * (a % b) ≤ b * (b + a % b) := by
          rw [Nat.mul_add]
          exact Nat.add_le_add_right (Nat.mul_le_mul_left _ (Nat.le_of_lt hlt)) _
        have h6 : b * (b + a % b) ≤ b * a := Nat.mul_le_mul_left _ ha
        rw [Nat.mul_comm a b]
        omega
      omega
theorem EG.zero {g N i a : Nat} (h : EG g N i a 0) : a = g := by
  have := h.1
  rwa [Nat.gcd_zero_right] at this
theorem EG.last {g N a b : Nat} (h : EG g N (N + 1) a b) : b = 0 := by
  obtain ⟨h1, h2⟩ := h.2.2 (by omega)
  rw [show N + 1 - (N + 1) = 0 by omega, Nat.pow_zero] at h2
  cases b with
  | zero => rfl
  | succ b =>
    have : 1 * 1 ≤ a * (b + 1) := Nat.mul_le_mul (by omega) (by omega)
    omega
end Cs
set_option maxHeartbeats 4000000
namespace Cs
open PySem PySem.Spec PyProof.Rows L2
/-! ### operators at any size -/
def CDivA (_ j : Int) : Prop := j ≠ 0 ∧ j.natAbs < 2 ^ 9000
section
variable {X : Cx}
theorem op_fdivA : OpR X (binaryOp .FloorDiv) (rI CDivA fun i j => .int (i.fdiv j)) := opI fun _ _ _ _ _ _ _ hc q =>
  floordiv_int hc.1 q (.inl (PyProof.noPylong_of_log2 (PySem.Flt.log2_lt_of (by decide) hc.2)))
theorem op_mulA : OpR X (binaryOp .Mult) (rI IntMulOk fun i j => .int (i * j)) := opI fun _ _ _ _ _ _ _ hc q => mul_int q hc
end
theorem mulL {i j : Int} (h : i.natAbs < 2 ^ 64) : IntMulOk i j := CMul.ok (.inl (by omega))
theorem mulR {i j : Int} (h : j.natAbs < 2 ^ 64) : IntMulOk i j := CMul.ok (.inr (by omega))
theorem mulB {i j : Int} {a : Nat} (hi : i.natAbs < 2 ^ a) (hj : j.natAbs < 2 ^ a) (h0 : 0 < a) (h : a ≤ 500000) : IntMulOk i j := (wide_mul hi hj h0 h0 (by omega)).ok
/-! ### a def that may be called -/
def Cal (P : Program) (w : World) (K : PySem.W.Frag) (mg : Str → Option Value) (base : Heap) (k : Nat) (x : Str) (ps : List Str) (sp : Sp) : Prop :=
  ∃ (f : Addr) (fd : FuncData), FnOk P w K mg base CX0 k f fd ps sp ∧ mg x = some (.ref f) ∧ PySem.W.keepIn K (.ref f) = true ∧ Binds K fd ps []
/-- a def of the text, with its place and how it binds -/
def FunG (K : PySem.W.Frag) (mg : Str → Option Value) (x : Str) (st : Stmt) (ps : List Str) : Prop :=
  ∃ (f : Addr) (fd : FuncData), Fun K x x st f fd ∧ mg x = some (.ref f) ∧ Binds K fd ps []
section
variable {P : Program} {w : World} {K : PySem.W.Frag} {mg : Str → Option Value} {base : Heap} {k j : Nat} {x : Str} {ps : List Str} {sp sp' : Sp} {st : Stmt}
theorem Cal.of (F : FunG K mg x st ps) (h : ∀ {f : Addr} {fd : FuncData}, Fun K x x st f fd → FnOk P w K mg base CX0 k f fd ps sp) : Cal P w K mg base k x ps sp := by
  obtain ⟨f, fd, F, g, b⟩ := F
  exact ⟨f, fd, h F, g, F.kp, b⟩
theorem Cal.mono (c : Cal P w K mg base j x ps sp) (h : j ≤ k) : Cal P w K mg base k x ps sp := by
  obtain ⟨f, fd, F, g⟩ := c
  exact ⟨f, fd, F.mono h, g⟩
theorem Cal.imp (c : Cal P w K mg base k x ps sp) (h : ∀ vs H Q E, sp' vs H Q E → sp vs H Q E) : Cal P w K mg base k x ps sp' := by
  obtain ⟨f, fd, F, g⟩ := c
  exact ⟨f, fd, F.imp h, g⟩
theorem FunG.of {f : Addr} {fd : FuncData} (F : Fun K x x st f fd) (g : mg x = some (.ref f)) (b : Binds K fd ps []) : FunG K mg x st ps := ⟨f, fd, F, g, b⟩
end
section
variable {X : Cx} {k : Nat} {x : Str} {ps : List Str} {sp : Sp} {p pos : Pos} {e : Expr} {es : List Expr} {t : TA}
theorem pe_cal (c : Cal X.prog X.w X.K X.mg X.base k x ps sp) (hr : Room k X.A) (hg : Gl X x) (ha : PA X (e :: es) t) (hdb : (x == ("__debug__" : Str)) = false := by decide)
    (he : starEach (e :: es) X.env = (false, eval e X.env) :: starEach es X.env := by rfl) (hpl : (backTo pos (starEach es X.env)).any (·.1) = false := by rfl) :
    PE X (.Call (.Name x p) (e :: es) [] pos) (tCall sp [] E0 t) := by
  obtain ⟨f, fd, F, g, kp, b⟩ := c
  exact pe_call F hr hg g kp b .nil pass0 ha hdb he hpl
end
/-! ### heaps -/
/-- all but d is as it was -/
def But (d : Addr) (H H' : Hp) : Prop := ∀ b o, b ≠ d → H b = some o → H' b = some o
theorem But.refl {d : Addr} {H : Hp} : But d H H := fun _ _ _ h => h
theorem But.trans {d : Addr} {H H1 H2 : Hp} (a : But d H H1) (b : But d H1 H2) : But d H H2 := fun c o n h => b c o n (a c o n h)
theorem But.upd {d : Addr} {H : Hp} {o : HO} : But d H (upd H d o) := fun b o' n h => by rw [upd_ne n]; exact h
theorem Same.but {d : Addr} {H H' : Hp} (s : Same H H') : But d H H' := fun b o _ h => s b o h
theorem Same.new {H : Hp} {p : Addr} {o : HO} (h : H p = none) : Same H (upd H p o) := fun b x e => by
  rw [upd_ne (ne_of_none e h)]
  exact e
theorem But.seq {K : PySem.W.Frag} {d a : Addr} {xs : List V} {H H' : Hp} (b : But d H H') (n : a ≠ d) (h : SqL K H a xs) : SqL K H' a xs := by
  rcases h with (h | ⟨o, h⟩) | h
  · exact .inl (.inl (b _ _ n h))
  · exact .inl (.inr ⟨o, b _ _ n h⟩)
  · exact .inr h
theorem But.tup {d a : Addr} {xs : List V} {H H' : Hp} {ys : List V} (b : But d H H') (hd : H d = some (.lst ys)) (h : H a = some (.tup xs)) : H' a = some (.tup xs) :=
  b a _ (ne_of h hd (fun z => nomatch z)) h
/-! ### the deck: the script's list, the next cell, what is left of a cell, the state -/
def DeckO (l : Addr) (b c e : Int) : HO := .lst [.ref l, .int b, .int c, .int e]
def Deck (K : PySem.W.Frag) (H : Hp) (d : Addr) : Prop := ∃ (l : Addr) (ns : List Int) (b c e : Int), H d = some (DeckO l b c e) ∧ SqL K H l (ns.map V.int) ∧ l ≠ d ∧ 0 ≤ b
theorem Deck.same {K : PySem.W.Frag} {H H' : Hp} {d : Addr} (s : Same H H') (h : Deck K H d) : Deck K H' d := by
  obtain ⟨l, ns, b, c, e, h1, h2, h3, h4⟩ := h
  exact ⟨l, ns, b, c, e, s _ _ h1, s.seq h2, h3, h4⟩
theorem Deck.lst {K : PySem.W.Frag} {H : Hp} {d : Addr} (h : Deck K H d) : ∃ ys, H d = some (.lst ys) := by
  obtain ⟨l, ns, b, c, e, h1, h2, h3, h4⟩ := h
  exact ⟨_, h1⟩
theorem But.tupD {K : PySem.W.Frag} {d a : Addr} {xs : List V} {H H' : Hp} (b : But d H H') (hd : Deck K H d) (h : H a = some (.tup xs)) : H' a = some (.tup xs) := by
  obtain ⟨ys, e⟩ := hd.lst
  exact b.tup e h
theorem deck_of {K : PySem.W.Frag} {H H1 : Hp} {d l : Addr} {ns : List Int} {b c e : Int} (hl : SqL K H l (ns.map V.int)) (ne : l ≠ d) (hb : But d H H1) (h : H1 d = some (DeckO l b c e)) (b0 : 0 ≤ b) : Deck K H1 d :=
  ⟨l, ns, b, c, e, h, hb.seq ne hl, ne, b0⟩
theorem cell_at {ns : List Int} {b : Int} (b0 : 0 ≤ b) (h : b < (ns.length : Int)) : ∃ z, atI (ns.map V.int) b = some (.int z) := by
  obtain ⟨j, rfl⟩ : ∃ j : Nat, b = (j : Int) := ⟨b.toNat, by omega⟩
  have hj : j < ns.length := by omega
  exact ⟨ns[j], atI_nat (by rw [List.getElem?_map, List.getElem?_eq_getElem hj]; rfl)⟩
def spDeck (K : PySem.W.Frag) : Sp := fun vs H Q _ => ∃ (a : Addr) (ns : List Int), vs = [.ref a] ∧ SqL K H a (ns.map V.int) ∧ ∀ d H', Same H H' → H d = none → Deck K H' d → Q (.ref d) H'
def spDraw (K : PySem.W.Frag) : Sp := fun vs H Q _ => ∃ (d : Addr) (m : Int), vs = [.ref d, .int m] ∧ 0 < m ∧ m.natAbs < 2 ^ 8000 ∧ Deck K H d ∧ ∀ v H', 0 ≤ v → v < m → But d H H' → Deck K H' d → Q (.int v) H'
/-! ### fractions -/
def nd (r : Rat) : HO := .tup [.int r.num, .int (r.den : Int)]
def spFrac : Sp := fun vs H Q _ => ∃ p q : Int, vs = [.int p, .int q] ∧ q ≠ 0 ∧ q.natAbs < 2 ^ 9000 ∧ ∀ t H', Same H H' → H t = none → H' t = some (nd (Rat.divInt p q)) → Q (.ref t) H'
def spGcd : Sp := fun vs H Q _ => ∃ a b : Nat, vs = [.int a, .int b] ∧ a < 2 ^ 2400 ∧ b < 2 ^ 2400 ∧ Q (.int (Nat.gcd a b : Nat)) H
def spRatio : Sp := fun vs H Q _ => ∃ p q : Int, vs = [.int p, .int q] ∧ q ≠ 0 ∧ p.natAbs < 2 ^ 2400 ∧ q.natAbs < 2 ^ 2400 ∧ ∀ t H', Same H H' → H t = none → H' t = some (nd (Rat.divInt p q)) → Q (.ref t) H'
def spOp (f : Rat → Rat → Rat) (ok : Rat → Rat → Prop) : Sp := fun vs H Q _ => ∃ (a b : Addr) (r s : Rat), vs = [.ref a, .ref b] ∧ H a = some (nd r) ∧ H b = some (nd s) ∧ Sz 1000 r ∧ Sz 1000 s ∧ ok r s ∧ ∀ t H', Same H H' → H t = none → H' t = some (nd (f r s)) → Q (.ref t) H'
def spCmp (f : Rat → Rat → V) : Sp := fun vs H Q _ => ∃ (a b : Addr) (r s : Rat), vs = [.ref a, .ref b] ∧ H a = some (nd r) ∧ H b = some (nd s) ∧ Sz 1000 r ∧ Sz 1000 s ∧ ∀ H', Same H H' → Q (f r s) H'
/-- -1, 0 or 1 -/
def cmpR (r s : Rat) : Int := (r.num * s.den - s.num * r.den).sign
theorem cmpR_eq {r s : Rat} (h : cmpR r s = 0) : r = s := by
  have e : r.num * s.den = s.num * r.den := by
    have := Int.sign_eq_zero_iff_zero.mp h
    omega
  have h1 : ¬ r < s := fun z => by have := (Rat.lt_iff r s).mp z; omega
  have h2 : ¬ s < r := fun z => by have := (Rat.lt_iff s r).mp z; omega
  grind
theorem cmpR_neg (r s : Rat) : cmpR s r = -cmpR r s := by
  unfold cmpR
  rw [← Int.sign_neg]
  congr 1
  omega
theorem cmpR_lt {r s : Rat} : cmpR r s = -1 ↔ r < s := by
  unfold cmpR
  rw [Rat.lt_iff, Int.sign_eq_neg_one_iff_neg]
  omega
theorem cmpR_gt {r s : Rat} : cmpR r s = 1 ↔ s < r := by
  unfold cmpR
  rw [Rat.lt_iff, Int.sign_eq_one_iff_pos]
  omega
theorem cmpR_three (r s : Rat) : cmpR r s = -1 ∨ cmpR r s = 0 ∨ cmpR r s = 1 := by
  unfold cmpR
  rcases Int.lt_trichotomy (r.num * s.den - s.num * r.den) 0 with h | h | h
  · exact .inl (Int.sign_eq_neg_one_iff_neg.mpr h)
  · rw [h]; exact .inr (.inl rfl)
  · exact .inr (.inr (Int.sign_eq_one_iff_pos.mpr h))
theorem cmpR_add (r s t : Rat) : cmpR (r + t) (s + t) = cmpR r s := by
  rcases cmpR_three r s with h | h | h
  · rw [h, cmpR_lt]
    have := cmpR_lt.mp h
    grind
  · rw [cmpR_eq h]
    unfold cmpR
    rw [Int.sub_self, Int.sub_self]
  · rw [h, cmpR_gt]
    have := cmpR_gt.mp h
    grind
theorem sign_le (d : Int) : d.sign ≤ 0 ↔ ¬ 0 < d := by
  rcases Int.lt_trichotomy d 0 with h | h | h
  · rw [Int.sign_eq_neg_one_iff_neg.mpr h]; omega
  · subst h; decide
  · rw [Int.sign_eq_one_iff_pos.mpr h]; omega
theorem sign_if (d : Int) : (if decide (0 < d) = true then (1 : Int) else 0) - (if decide (d < 0) = true then 1 else 0) = d.sign := by
  rcases Int.lt_trichotomy d 0 with h | h | h
  · rw [Int.sign_eq_neg_one_iff_neg.mpr h, decide_eq_true h, decide_eq_false (by omega)]; rfl
  · subst h; rfl
  · rw [Int.sign_eq_one_iff_pos.mpr h, decide_eq_true h, decide_eq_false (by omega)]; rfl
theorem sign_if2 (d : Int) : (if decide (d < 0) = true then (-1 : Int) else if decide (0 < d) = true then 1 else 0) = d.sign := by
  rcases Int.lt_trichotomy d 0 with h | h | h
  · rw [Int.sign_eq_neg_one_iff_neg.mpr h, decide_eq_true h]; rfl
  · subst h; rfl
  · rw [Int.sign_eq_one_iff_pos.mpr h, decide_eq_true h, decide_eq_false (by omega)]; rfl
/-! ### isinstance -/
theorem kit_ii : kitB "int" "int" = some true := by decide +kernel
theorem kit_ib : kitB "int" "bool" = some false := by decide +kernel
theorem kit_it : kitB "int" "tuple" = some false := by decide +kernel
theorem kit_bi : kitB "bool" "int" = some true := by decide +kernel
theorem kit_bb : kitB "bool" "bool" = some true := by decide +kernel
theorem kit_bt : kitB "bool" "tuple" = some false := by decide +kernel
theorem kit_tt : kitB "tuple" "tuple" = some true := by decide +kernel
/-- same as the law's own: ints, truths, fractions -/
def spSame0 : Sp := fun vs H Q _ => (∃ i j : Int, vs = [.int i, .int j] ∧ Q (.bl (decide (i = j))) H) ∨ (∃ a b : Bool, vs = [.bl a, .bl b] ∧ Q (.bl (decide (a = b))) H)
def spSame : Sp := fun vs H Q E => spSame0 vs H Q E ∨ ∃ (a b : Addr) (r s : Rat), vs = [.ref a, .ref b] ∧ H a = some (nd r) ∧ H b = some (nd s) ∧ Q (.bl (decide (r = s))) H
def spNumber (K : PySem.W.Frag) : Sp := fun vs H Q _ => ∃ d : Addr, vs = [.ref d] ∧ Deck K H d ∧ ∀ (t : Addr) (r : Rat) (H' : Hp), But d H H' → Deck K H' d → Sz 42 r → H' t = some (nd r) → Q (.ref t) H'
def spSmaller : Sp := fun vs H Q _ => ∃ (a b : Addr) (r s : Rat), vs = [.ref a, .ref b] ∧ H a = some (nd r) ∧ H b = some (nd s) ∧ Sz 1000 r ∧ Sz 1000 s ∧ ∀ H', Same H H' → Q (if cmpR r s ≤ 0 then .ref a else .ref b) H'
def spGreater : Sp := fun vs H Q _ => ∃ (a b : Addr) (r s : Rat), vs = [.ref a, .ref b] ∧ H a = some (nd r) ∧ H b = some (nd s) ∧ Sz 1000 r ∧ Sz 1000 s ∧ ∀ H', Same H H' → Q (if 0 ≤ cmpR r s then .ref a else .ref b) H'
def spWhole : Sp := fun vs H Q _ => ∃ (a : Addr) (r : Rat), vs = [.ref a] ∧ H a = some (nd r) ∧ Sz 1000 r ∧ Q (.int (r.num / (r.den : Int))) H
def spIsInt : Sp := fun vs H Q _ => ∃ i : Int, vs = [.int i] ∧ Q (.bl true) H
theorem nd_int (n : Int) : nd (n : Rat) = .tup [.int n, .int 1] := rfl
theorem nd_inj {r s : Rat} (h1 : r.num = s.num) (h2 : (r.den : Int) = s.den) : r = s := Rat.ext h1 (by omega)
theorem Sz.int {k : Nat} {n : Int} (h : n.natAbs < 2 ^ k) (hk : 0 < k) : Sz k (n : Rat) := ⟨h, Nat.one_lt_two_pow (by omega)⟩
theorem Sz.nn {n : Nat} {r : Rat} (h : Sz n r) : r.num.natAbs < 2 ^ n := h.1
theorem Sz.dd {n : Nat} {r : Rat} (h : Sz n r) : ((r.den : Int)).natAbs < 2 ^ n := by rw [Int.natAbs_natCast]; exact h.2
theorem mulZ {i j : Int} (hi : i.natAbs < 2 ^ 1000) (hj : j.natAbs < 2 ^ 1000) : IntMulOk i j := mulB hi hj (by decide) (by decide)
theorem lt9 {i : Int} {a : Nat} (h : i.natAbs < 2 ^ a) (k : a ≤ 9000) : i.natAbs < 2 ^ 9000 := Nat.lt_of_lt_of_le h (Nat.pow_le_pow_right (by decide) k)
theorem fdivI {i j : Int} {V' : Int → V} : (fun i j => V' (i.fdiv j)) i j = V' (i.fdiv j) := rfl
theorem sz_add {n : Nat} {r s : Rat} (h : Sz n r) (g : Sz n s) : Sz (n + n + 1) (r + s) := by
  rw [← add_div]
  exact sz_div (Int.mul_ne_zero (den_ne r) (den_ne s)) (add_lt (pow_lt h.nn g.dd) (pow_lt g.nn h.dd)) (Nat.lt_trans (pow_lt h.dd g.dd) (Nat.pow_lt_pow_right (by decide) (by omega)))
theorem sz_mul {n : Nat} {r s : Rat} (h : Sz n r) (g : Sz n s) : Sz (n + n) (r * s) := by
  rw [← mul_div]
  exact sz_div (Int.mul_ne_zero (den_ne r) (den_ne s)) (pow_lt h.nn g.nn) (pow_lt h.dd g.dd)
theorem sz_sub {n : Nat} {r s : Rat} (h : Sz n r) (g : Sz n s) : Sz (n + n + 1) (r - s) := by
  rw [← sub_div]
  exact sz_div (Int.mul_ne_zero (den_ne r) (den_ne s)) (sub_lt (pow_lt h.nn g.dd) (pow_lt g.nn h.dd)) (Nat.lt_trans (pow_lt h.dd g.dd) (Nat.pow_lt_pow_right (by decide) (by omega)))
theorem sz_quo {n : Nat} {r s : Rat} (h : Sz n r) (g : Sz n s) (hs : s.num ≠ 0) : Sz (n + n) (r / s) := by
  rw [← div_div]
  exact sz_div (Int.mul_ne_zero (den_ne r) hs) (pow_lt h.nn g.dd) (pow_lt h.dd g.nn)
theorem sz_zero {n : Nat} (h : 0 < n) : Sz n 0 := ⟨Nat.two_pow_pos n, Nat.one_lt_two_pow (by omega)⟩
def spLaw (K : PySem.W.Frag) : Sp := fun vs H Q _ => ∃ (a : Addr) (ns : List Int), vs = [.ref a] ∧ SqL K H a (ns.map V.int) ∧ ns.length ≤ 63 ∧ ∀ H', Q (.bl true) H'
/-! ### what the top has written -/
section
variable {K : PySem.W.Frag} {h : Heap} {mg : Str → Option Value}
theorem FunG.mk {x : Str} {st : Stmt} {ps : List Str} {f : Addr} {od an : Option Addr} {sl : Array (Option Value)} {oc kV dc pm cd ct : Value}
    (hb : ∀ (kV doc pm : Value) (an : Option Addr) (cdv ct : Value) (us : List Value), us.length = ps.length → bindArgs (PySem.W.fnOf x x (defArgs st) (defBody st) (defScope st) .none kV doc pm an cdv ct) ⟨us, []⟩ = pure (ps.zip us))
    (X : K.In h) (G : h.Ns mainGlobals mg)
    (a : PySem.W.nsIn K mainGlobals x = some (some (.ref f))) (l : K.lookup f = some ⟨oc, od, .func (PySem.W.fnOf x x (defArgs st) (defBody st) (defScope st) .none kV dc pm an cd ct), sl⟩) (c : PySem.W.codeIn K cd x = true) (k : PySem.W.keepIn K (.ref f) = true) : FunG K mg x st ps := by
  have F := fun_mk (st := st) l c k
  exact ⟨f, _, F, PySem.W.mg_of X G a, F.binds hb⟩
/-- a def of two parameters, the second one with an int as its default, called with both -/
def FunD2 (K : PySem.W.Frag) (mg : Str → Option Value) (x : Str) (st : Stmt) (ps : List Str) : Prop :=
  ∃ (f : Addr) (fd : FuncData), FunD K x x (defArgs st) (defBody st) (defScope st) [.int 1] [] f fd ∧ mg x = some (.ref f) ∧ PySem.W.keepIn K (.ref f) = true ∧ Binds K fd ps []
theorem FunD2.mk {x p q : Str} {st : Stmt} {f T : Addr} {od an dT : Option Addr} {sl slT : Array (Option Value)} {oc kV dc pm cd ct cT : Value} {nT : Nat} {tk : Tok}
    (hb : ∀ (T : Addr) (kV doc pm : Value) (an : Option Addr) (cdv ct : Value) (us its : List Value), us.length = 2 → its.length = ([V.int 1]).length →
      ∃ k, bindArgs (PySem.W.fnOf x x (defArgs st) (defBody st) (defScope st) (.ref T) kV doc pm an cdv ct) ⟨us, []⟩ = seqItems? (.ref T) >>= k ∧ k (some its.toArray) = pure ([p, q].zip (us ++ its.drop 1)))
    (X : K.In h) (G : h.Ns mainGlobals mg)
    (a : PySem.W.nsIn K mainGlobals x = some (some (.ref f))) (l : K.lookup f = some ⟨oc, od, .func (PySem.W.fnOf x x (defArgs st) (defBody st) (defScope st) (.ref T) kV dc pm an cd ct), sl⟩) (c : PySem.W.codeIn K cd x = true) (k : PySem.W.keepIn K (.ref f) = true)
    (lT : K.lookup T = some ⟨cT, dT, .seq #[.int 1 tk] nT, slT⟩) : FunD2 K mg x st [p, q] := by
  have F : FunD K x x (defArgs st) (defBody st) (defScope st) [.int 1] [] f _ := ⟨⟨oc, od, .ref T, kV, dc, pm, an, cd, ct, sl, rfl, l, c, .inr ⟨by simp, T, _, [.int 1 tk], nT, rfl, lT, rfl, .cons ⟨tk, rfl⟩ .nil⟩, .inl rfl⟩, k⟩
  obtain ⟨ds, hv, hB⟩ := F.binds1 (ps := [p, q]) 2 1 (by simp) rfl hb
  cases hv
  exact ⟨f, _, F, PySem.W.mg_of X G a, k, hB⟩
end
end Cs
set_option maxHeartbeats 4000000
namespace Cs
open PySem PySem.Spec PyProof.Rows L2
/-! ### heaps in which the things that change are hidden -/
def hid (S : List Addr) (H : Hp) : Hp := fun a => if a ∈ S then none else H a
section
variable {S T : List Addr} {H H' : Hp} {a p : Addr} {o : HO}
theorem hid_of (h : a ∉ S) : hid S H a = H a := by unfold hid; rw [if_neg h]
theorem hid_sub : Same (hid S H) H := fun b o h => by
  unfold hid at h
  split at h
  · cases h
  · exact h
theorem hid_same (e : Same H H') : Same (hid S H) (hid S H') := fun b o h => by
  unfold hid at h ⊢
  split at h
  · cases h
  · rename_i q; rw [if_neg q]; exact e _ _ h
theorem hid_less (h : ∀ a, a ∈ S → a ∈ T) : Same (hid T H) (hid S H) := fun b o q => by
  unfold hid at q ⊢
  split at q
  · cases q
  · rename_i z; rw [if_neg (fun y => z (h _ y))]; exact q
theorem hid_upd (h : a ∈ S) : hid S (upd H a o) = hid S H := by
  funext b
  unfold hid
  split
  · rfl
  · rename_i q; exact upd_ne (fun z => q (z ▸ h))
end
/-- all but M is as it was -/
def Bt (M : List Addr) (H H' : Hp) : Prop := ∀ b o, b ∉ M → H b = some o → H' b = some o
theorem Bt.refl {M : List Addr} {H : Hp} : Bt M H H := fun _ _ _ h => h
theorem Bt.trans {M : List Addr} {H H1 H2 : Hp} (a : Bt M H H1) (b : Bt M H1 H2) : Bt M H H2 := fun c o n h => b c o n (a c o n h)
theorem Bt.of {M : List Addr} {H H' : Hp} (e : Same H H') : Bt M H H' := fun b o _ h => e b o h
theorem Bt.same {H H' : Hp} (e : Bt [] H H') : Same H H' := fun b o h => e b o (by simp) h
theorem Bt.mono {M N : List Addr} {H H' : Hp} (e : Bt M H H') (h : ∀ a, a ∈ M → a ∈ N) : Bt N H H' := fun b o n q => e b o (fun z => n (h _ z)) q
/-- news are the addresses that are hidden from now on: they were free -/
theorem Bt.hid {M S N : List Addr} {H H' : Hp} (e : Bt M H H') (h : ∀ a, a ∈ M → a ∈ S) (hN : ∀ a, a ∈ N → a ∈ S ∨ H a = none) : Same (hid S H) (hid (N ++ S) H') := fun b o q => by
  have q' := hid_sub _ _ q
  have n : b ∉ S := fun z => by unfold Cs.hid at q; rw [if_pos z] at q; cases q
  have n2 : b ∉ N ++ S := fun z => by
    rcases List.mem_append.mp z with z | z
    · rcases hN b z with y | y
      · exact n y
      · rw [y] at q'; cases q'
    · exact n z
  rw [hid_of n2]
  exact e b o (fun z => n (h _ z)) q'
/-! ### what a value is, by a Lean value -/
structure Ty (α : Type) where
  r : Hp → V → α → Prop
  mono : ∀ {H H' : Hp} {v : V} {x : α}, Same H H' → r H v x → r H' v x
/-- what a slot holds -/
structure SF where
  p : Hp → V → Prop
  mono : ∀ {H H' : Hp} {v : V}, Same H H' → p H v → p H' v
/-- what stands in a cell -/
structure CF where
  p : Hp → HO → Prop
  mono : ∀ {H H' : Hp} {o : HO}, Same H H' → p H o → p H' o
/-- a thing that changes: the addresses that are its own, and what is true of them (F: what can be read otherwise) -/
structure RS where
  fp : List Addr
  p : Hp → Hp → Prop
  mono : ∀ {F F' H : Hp}, Same F F' → p F H → p F' H
  loc : ∀ {F H H' : Hp}, (∀ a, a ∈ fp → H' a = H a) → p F H → p F H'
def cell (a : Addr) (φ : CF) : RS := ⟨[a], fun F H => ∃ o, H a = some o ∧ φ.p F o, fun e ⟨o, h, g⟩ => ⟨o, h, φ.mono e g⟩, fun e ⟨o, h, g⟩ => ⟨o, by rw [e a (List.mem_cons_self ..)]; exact h, g⟩⟩
def Ty.is {α : Type} (t : Ty α) (x : α) : SF := ⟨fun H v => t.r H v x, fun e h => t.mono e h⟩
/-- what is known of the heap -/
structure FF where
  p : Hp → Prop
  mono : ∀ {H H' : Hp}, Same H H' → p H → p H'
def fps (L : List RS) : List Addr := L.flatMap RS.fp
theorem mem_fps {L : List RS} {r : RS} {a : Addr} (h : r ∈ L) (g : a ∈ r.fp) : a ∈ fps L := List.mem_flatMap.mpr ⟨r, h, g⟩
theorem of_fps {L : List RS} {a : Addr} (h : a ∈ fps L) : ∃ r, r ∈ L ∧ a ∈ r.fp := by
  obtain ⟨r, h1, h2⟩ := List.mem_flatMap.mp h
  exact ⟨r, h1, h2⟩
theorem fps_sub {A B : List RS} (h : A.Sublist B) : (fps A).Sublist (fps B) := by
  induction h with
  | slnil => exact List.Sublist.refl _
  | cons a _ ih => exact ih.trans (List.sublist_append_right _ _)
  | cons_cons a _ ih => exact List.Sublist.append (List.Sublist.refl _) ih
structure Wd where
  H0 : Hp
  M : List Addr
  S : List Addr
  L : List RS
  F : List FF
  G : List (Option SF)
structure Ok (W : Wd) (σ : L2.St) (H : Hp) : Prop where
  nod : (fps W.L).Nodup
  own : ∀ a, a ∈ fps W.L → a ∈ W.S ∧ (a ∈ W.M ∨ W.H0 a = none)
  at_ : ∀ r, r ∈ W.L → r.p (hid W.S H) H
  ms : ∀ a, a ∈ W.M → a ∈ W.S
  al : ∀ a, a ∈ W.S → H a ≠ none
  bt : Bt W.M W.H0 H
  len : σ.length = W.G.length
  facts : ∀ f, f ∈ W.F → f.p (hid W.S H)
  slots : ∀ (i : Nat) (f : SF), W.G[i]? = some (some f) → ∃ v, σ[i]? = some (some v) ∧ f.p (hid W.S H) v
/-- from H to H': the world stands, what is not hidden is kept -/
structure Go1 (W : Wd) (σ : L2.St) (H H' : Hp) : Prop where
  ok : Ok W σ H'
  up : Same (hid W.S H) (hid W.S H')
section
variable {W : Wd} {σ : L2.St} {H H' H1 H2 : Hp}
theorem Go1.refl (h : Ok W σ H) : Go1 W σ H H := ⟨h, Same.refl _⟩
theorem Go1.trans (a : Go1 W σ H H1) (b : Go1 W σ H1 H2) : Go1 W σ H H2 := ⟨b.ok, a.up.trans b.up⟩
theorem eq_of_same (e : Same H H') {a : Addr} (h : H a ≠ none) : H' a = H a := by
  cases q : H a with
  | none => exact absurd q h
  | some o => exact e _ _ q
theorem Ok.same (h : Ok W σ H) (e : Same H H') : Ok W σ H' where
  nod := h.nod
  own := h.own
  at_ := fun r m => r.mono (hid_same e) (r.loc (fun a q => eq_of_same e (h.al a (h.own a (mem_fps m q)).1)) (h.at_ r m))
  ms := h.ms
  al := fun a m => by rw [eq_of_same e (h.al a m)]; exact h.al a m
  bt := h.bt.trans (Bt.of e)
  len := h.len
  facts := fun f m => f.mono (hid_same e) (h.facts f m)
  slots := fun i f g => by
    obtain ⟨v, q, z⟩ := h.slots i f g
    exact ⟨v, q, f.mono (hid_same e) z⟩
theorem Ok.go (h : Ok W σ H) (e : Same H H') : Go1 W σ H H' := ⟨h.same e, hid_same e⟩
theorem Ok.new {p : Addr} {o : HO} (h : Ok W σ H) (n : H p = none) : Go1 W σ H (upd H p o) := h.go (Same.new n)
theorem Ok.off {p : Addr} (h : Ok W σ H) (n : H p = none) : p ∉ W.S := fun z => h.al p z n
def RsAt (C : List RS) (S : List Addr) (H : Hp) : Prop := ∀ r, r ∈ C → r.p (hid S H) H
/-- the things C change to C', at their addresses and at new ones (N) -/
theorem Ok.change {C C' R : List RS} {N : List Addr} (h : Ok W σ H) (eL : ∀ r, r ∈ W.L ↔ r ∈ C ∨ r ∈ R) (nR : ∀ r, r ∈ R → ∀ a, a ∈ r.fp → a ∉ fps C) (nodR : (fps (C' ++ R)).Nodup) (b : Bt (fps C) H H')
    (hN : ∀ a, a ∈ N → H a = none ∧ H' a ≠ none) (hC' : ∀ a, a ∈ fps C' → (a ∈ fps C ∨ a ∈ N)) (hal : ∀ a, a ∈ fps C → H' a ≠ none) (hc : RsAt C' (N ++ W.S) H') : Ok { W with S := N ++ W.S, L := C' ++ R } σ H' ∧ Same (hid W.S H) (hid (N ++ W.S) H') := by
  have hCS : ∀ a, a ∈ fps C → a ∈ W.S ∧ (a ∈ W.M ∨ W.H0 a = none) := fun a m => by
    obtain ⟨r, m1, m2⟩ := of_fps m
    exact h.own a (mem_fps ((eL r).mpr (.inl m1)) m2)
  have up : Same (hid W.S H) (hid (N ++ W.S) H') := b.hid (fun a m => (hCS a m).1) fun a m => .inr (hN a m).1
  have h0 : ∀ a, H a = none → W.H0 a = none := fun a n => by
    cases q : W.H0 a with
    | none => rfl
    | some o =>
      by_cases hm : a ∈ W.M
      · exact absurd n (h.al a (h.ms a hm))
      · rw [h.bt a o hm q] at n; cases n
  refine ⟨⟨nodR, fun a m => ?_, fun r m => ?_, fun a m => List.mem_append_right _ (h.ms a m), fun a m => ?_, fun c o n q => ?_, h.len, fun f m => f.mono up (h.facts f m), fun i f g => ?_⟩, up⟩
  · obtain ⟨r, m1, m2⟩ := of_fps m
    rcases List.mem_append.mp m1 with m1 | m1
    · rcases hC' a (mem_fps m1 m2) with q | q
      · exact ⟨List.mem_append_right _ (hCS a q).1, (hCS a q).2⟩
      · exact ⟨List.mem_append_left _ q, .inr (h0 a (hN a q).1)⟩
    · have := h.own a (mem_fps ((eL r).mpr (.inr m1)) m2)
      exact ⟨List.mem_append_right _ this.1, this.2⟩
  · rcases List.mem_append.mp m with m | m
    · exact hc r m
    · refine r.mono up (r.loc (fun a q => ?_) (h.at_ r ((eL r).mpr (.inr m))))
      have al := h.al a (h.own a (mem_fps ((eL r).mpr (.inr m)) q)).1
      cases e : H a with
      | none => exact absurd e al
      | some o => exact b a o (nR r m a q) e
  · rcases List.mem_append.mp m with m | m
    · exact (hN a m).2
    · by_cases q : a ∈ fps C
      · exact hal a q
      · intro z
        cases e : H a with
        | none => exact h.al a m e
        | some o => rw [b a o q e] at z; cases z
  · have q1 := h.bt c o n q
    by_cases hin : c ∈ fps C
    · rcases (hCS c hin).2 with z | z
      · exact absurd z n
      · have q : W.H0 c = some o := q
        rw [z] at q; cases q
    · exact b c o hin q1
  · obtain ⟨v, q, z⟩ := h.slots i f g
    exact ⟨v, q, f.mono up z⟩
end
theorem nodup_app {A B : List RS} : (fps (A ++ B)).Nodup ↔ (fps A).Nodup ∧ (fps B).Nodup ∧ ∀ a, a ∈ fps A → a ∉ fps B := by
  unfold fps
  rw [List.flatMap_append, List.nodup_append]
  exact ⟨fun ⟨h1, h2, h3⟩ => ⟨h1, h2, fun a m1 m2 => h3 a m1 a m2 rfl⟩, fun ⟨h1, h2, h3⟩ => ⟨h1, h2, fun a m1 b m2 e => h3 a m1 (e ▸ m2)⟩⟩
section
variable {W : Wd} {σ : L2.St} {H H' : Hp}
/-- the first things of the world change -/
theorem Ok.change1 {C C' R : List RS} {N : List Addr} (h : Ok W σ H) (eL : W.L = C ++ R) (b : Bt (fps C) H H') (hN : ∀ a, a ∈ N → H a = none ∧ H' a ≠ none) (nodC : (fps C').Nodup) (hC' : ∀ a, a ∈ fps C' → (a ∈ fps C ∨ a ∈ N)) (hal : ∀ a, a ∈ fps C → H' a ≠ none)
    (hc : RsAt C' (N ++ W.S) H') : Ok { W with S := N ++ W.S, L := C' ++ R } σ H' ∧ Same (hid W.S H) (hid (N ++ W.S) H') := by
  have nd := h.nod
  rw [eL] at nd
  obtain ⟨n1, n2, n3⟩ := nodup_app.mp nd
  refine h.change (fun r => by rw [eL, List.mem_append]) (fun r m a q z => n3 a z (mem_fps m q)) (nodup_app.mpr ⟨nodC, n2, fun a m z => ?_⟩) b hN hC' hal hc
  rcases hC' a m with q | q
  · exact n3 a q z
  · have := h.al a (h.own a (by rw [eL]; obtain ⟨r, m1, m2⟩ := of_fps z; exact mem_fps (List.mem_append_right _ m1) m2)).1
    exact this (hN a q).1
/-- a callee changed the things C, and left what they promise -/
theorem Ok.after {C : List RS} (h : Ok W σ H) (hC : ∀ r, r ∈ C → r ∈ W.L) (b : Bt (fps C) H H') (hal : ∀ a, a ∈ fps C → H' a ≠ none) (hc : RsAt C W.S H') : Go1 W σ H H' := by
  have hCS : ∀ a, a ∈ fps C → a ∈ W.S ∧ (a ∈ W.M ∨ W.H0 a = none) := fun a m => by
    obtain ⟨r, m1, m2⟩ := of_fps m
    exact h.own a (mem_fps (hC r m1) m2)
  have up : Same (hid W.S H) (hid W.S H') := b.hid (N := []) (fun a m => (hCS a m).1) (fun a m => nomatch m)
  have disj : ∀ (L : List RS), (fps L).Nodup → ∀ r r' a, r ∈ L → r' ∈ L → a ∈ r.fp → a ∈ r'.fp → r = r' := by
    intro L
    induction L with
    | nil => intro _ r r' a m; cases m
    | cons x L ih =>
      intro nd r r' a m m' q q'
      have nd' : (fps ([x] ++ L)).Nodup := nd
      obtain ⟨_, n2, n3⟩ := nodup_app.mp nd'
      rcases List.mem_cons.mp m with m | m <;> rcases List.mem_cons.mp m' with m' | m'
      · rw [m, m']
      · exact absurd (mem_fps m' q') (n3 a (mem_fps (List.mem_cons_self ..) (m ▸ q)))
      · exact absurd (mem_fps m q) (n3 a (mem_fps (List.mem_cons_self ..) (m' ▸ q')))
      · exact ih n2 r r' a m m' q q'
  refine ⟨⟨h.nod, h.own, fun r m => ?_, h.ms, fun a m => ?_, fun c o n q => ?_, h.len, fun f m => f.mono up (h.facts f m), fun i f g => ?_⟩, up⟩
  · by_cases hin : r ∈ C
    · exact hc r hin
    · refine r.mono up (r.loc (fun a q => ?_) (h.at_ r m))
      have al := h.al a (h.own a (mem_fps m q)).1
      have off : a ∉ fps C := fun z => by
        obtain ⟨r', m1, m2⟩ := of_fps z
        exact hin (disj _ h.nod r r' a m (hC r' m1) q m2 ▸ m1)
      cases e : H a with
      | none => exact absurd e al
      | some o => exact b a o off e
  · by_cases q : a ∈ fps C
    · exact hal a q
    · intro z
      cases e : H a with
      | none => exact h.al a m e
      | some o => rw [b a o q e] at z; cases z
  · have q1 := h.bt c o n q
    by_cases hin : c ∈ fps C
    · rcases (hCS c hin).2 with z | z
      · exact absurd z n
      · have q : W.H0 c = some o := q
        rw [z] at q; cases q
    · exact b c o hin q1
  · obtain ⟨v, q, z⟩ := h.slots i f g
    exact ⟨v, q, f.mono up z⟩
/-- the things in another order -/
theorem Ok.perm {L' : List RS} (h : Ok W σ H) (p : W.L.Perm L') : Ok { W with L := L' } σ H := by
  have pf : (fps W.L).Perm (fps L') := p.flatMap_right RS.fp
  exact ⟨pf.nodup_iff.mp h.nod, fun a m => h.own a (pf.mem_iff.mpr m), fun r m => h.at_ r (p.mem_iff.mpr m), h.ms, h.al, h.bt, h.len, h.facts, h.slots⟩
/-- a cell is written -/
theorem Ok.write {a : Addr} {φ ψ : CF} {R : List RS} {o : HO} (h : Ok W σ H) (e : W.L = cell a φ :: R) (hp : ψ.p (hid W.S H) o) : Go1 { W with L := cell a ψ :: R } σ H (upd H a o) := by
  have hS : a ∈ W.S := (h.own a (by rw [e]; exact mem_fps (List.mem_cons_self ..) (List.mem_cons_self ..))).1
  have eq : hid W.S (upd H a o) = hid W.S H := hid_upd hS
  have fa : fps [cell a φ] = [a] := rfl
  obtain ⟨o2, _⟩ := h.change1 (C := [cell a φ]) (C' := [cell a ψ]) (R := R) (N := []) (H' := upd H a o) e (fun b u n q => by rw [upd_ne (fun z => n (by rw [fa, z]; exact List.mem_cons_self ..))]; exact q) (fun b m => nomatch m) (by show [a].Nodup; simp) (fun b m => .inl m) (fun b m => by
    obtain rfl : b = a := by simpa [fa] using m
    rw [upd_same]; simp) (fun r m => by
    obtain rfl : r = cell a ψ := by simpa using m
    exact ⟨o, upd_same, by show ψ.p (hid W.S (upd H a o)) o; rw [eq]; exact hp⟩)
  exact ⟨o2, by show Same (hid W.S H) (hid W.S (upd H a o)); rw [eq]; exact Same.refl _⟩
/-- a new cell -/
theorem Ok.cell {p : Addr} {ψ : CF} {o : HO} (h : Ok W σ H) (n : H p = none) (hp : ψ.p (hid W.S H) o) : Ok { W with S := p :: W.S, L := Cs.cell p ψ :: W.L } σ (upd H p o) ∧ Same (hid W.S H) (hid (p :: W.S) (upd H p o)) :=
  have up : Same (hid W.S H) (hid (p :: W.S) (upd H p o)) := Bt.hid (M := []) (N := [p]) (Bt.of (Same.new n)) (fun a m => nomatch m) (fun a m => .inr (by rw [List.mem_singleton.mp m]; exact n))
  h.change1 (C := []) (C' := [Cs.cell p ψ]) (R := W.L) (N := [p]) rfl (Bt.of (Same.new n)) (fun a m => by
    obtain rfl : a = p := by simpa using m
    exact ⟨n, by rw [upd_same]; simp⟩) (by show [p].Nodup; simp) (fun a m => .inr m) (fun a m => nomatch m) (fun r m => by
    obtain rfl : r = Cs.cell p ψ := by simpa using m
    exact ⟨o, upd_same, ψ.mono up hp⟩)
end
end Cs
set_option maxHeartbeats 4000000
namespace Cs
open PySem PySem.Spec PyProof.Rows L2
/-! ### what readings come to -/
def Fits (H : Hp) : List SF → List V → Prop
  | [], [] => True
  | f :: fs, v :: vs => f.p H v ∧ Fits H fs vs
  | _, _ => False
theorem Fits.mono {H H' : Hp} (e : Same H H') : ∀ {fs : List SF} {vs : List V}, Fits H fs vs → Fits H' fs vs
  | [], [], _ => trivial
  | _ :: _, _ :: _, ⟨a, b⟩ => ⟨SF.mono _ e a, Fits.mono e b⟩
  | [], _ :: _, h => h.elim
  | _ :: _, [], h => h.elim
theorem Fits.length {H : Hp} : ∀ {fs : List SF} {vs : List V}, Fits H fs vs → vs.length = fs.length
  | [], [], _ => rfl
  | _ :: _, _ :: _, ⟨_, b⟩ => by simp [Fits.length b]
  | [], _ :: _, h => h.elim
  | _ :: _, [], h => h.elim
theorem Fits.get {H : Hp} : ∀ {fs : List SF} {vs : List V} {i : Nat} {f : SF}, Fits H fs vs → fs[i]? = some f → ∃ v, vs[i]? = some v ∧ f.p H v
  | [], [], _, _, _, q => by simp at q
  | _ :: _, v :: _, 0, f, ⟨a, _⟩, q => by simp at q; subst q; exact ⟨v, rfl, a⟩
  | _ :: _, _ :: _, i + 1, f, ⟨_, b⟩, q => by
    obtain ⟨v, h1, h2⟩ := Fits.get b (i := i) (f := f) (by simpa using q)
    exact ⟨v, by simpa using h1, h2⟩
  | [], _ :: _, _, _, h, _ => h.elim
  | _ :: _, [], _, _, h, _ => h.elim
/-- the values vs are the xs -/
def All2 {α : Type} (r : V → α → Prop) : List V → List α → Prop
  | [], [] => True
  | v :: vs, x :: xs => r v x ∧ All2 r vs xs
  | _, _ => False
section
variable {α β : Type} {r q : V → α → Prop}
theorem All2.mono (e : ∀ v x, r v x → q v x) : ∀ {vs : List V} {xs : List α}, All2 r vs xs → All2 q vs xs
  | [], [], _ => trivial
  | _ :: _, _ :: _, ⟨a, b⟩ => ⟨e _ _ a, All2.mono e b⟩
  | [], _ :: _, h => h.elim
  | _ :: _, [], h => h.elim
theorem All2.length : ∀ {vs : List V} {xs : List α}, All2 r vs xs → vs.length = xs.length
  | [], [], _ => rfl
  | _ :: _, _ :: _, ⟨_, b⟩ => by simp [All2.length b]
  | [], _ :: _, h => h.elim
  | _ :: _, [], h => h.elim
theorem All2.get : ∀ {vs : List V} {xs : List α} {i : Nat} {x : α}, All2 r vs xs → xs[i]? = some x → ∃ v, vs[i]? = some v ∧ r v x
  | [], [], _, _, _, q => by simp at q
  | v :: _, _ :: _, 0, x, ⟨a, _⟩, q => by simp at q; subst q; exact ⟨v, rfl, a⟩
  | _ :: _, _ :: _, i + 1, x, ⟨_, b⟩, q => by
    obtain ⟨v, h1, h2⟩ := All2.get b (i := i) (x := x) (by simpa using q)
    exact ⟨v, by simpa using h1, h2⟩
  | [], _ :: _, _, _, h, _ => h.elim
  | _ :: _, [], _, _, h, _ => h.elim
theorem All2.getV : ∀ {vs : List V} {xs : List α} {i : Nat} {v : V}, All2 r vs xs → vs[i]? = some v → ∃ x, xs[i]? = some x ∧ r v x
  | [], [], _, _, _, q => by simp at q
  | _ :: _, x :: _, 0, v, ⟨a, _⟩, q => by simp at q; subst q; exact ⟨x, rfl, a⟩
  | _ :: _, _ :: _, i + 1, v, ⟨_, b⟩, q => by
    obtain ⟨x, h1, h2⟩ := All2.getV b (i := i) (v := v) (by simpa using q)
    exact ⟨x, by simpa using h1, h2⟩
  | [], _ :: _, _, _, h, _ => h.elim
  | _ :: _, [], _, _, h, _ => h.elim
theorem All2.app : ∀ {vs ws : List V} {xs ys : List α}, All2 r vs xs → All2 r ws ys → All2 r (vs ++ ws) (xs ++ ys)
  | [], _, [], _, _, g => g
  | _ :: _, _, _ :: _, _, ⟨a, b⟩, g => ⟨a, All2.app b g⟩
  | [], _, _ :: _, _, h, _ => h.elim
  | _ :: _, _, [], _, h, _ => h.elim
theorem All2.take : ∀ {vs : List V} {xs : List α} (n : Nat), All2 r vs xs → All2 r (vs.take n) (xs.take n)
  | _, _, 0, _ => trivial
  | [], [], _ + 1, _ => trivial
  | _ :: _, _ :: _, n + 1, ⟨a, b⟩ => ⟨a, All2.take n b⟩
  | [], _ :: _, _ + 1, h => h.elim
  | _ :: _, [], _ + 1, h => h.elim
theorem All2.drop : ∀ {vs : List V} {xs : List α} (n : Nat), All2 r vs xs → All2 r (vs.drop n) (xs.drop n)
  | _, _, 0, h => h
  | [], [], _ + 1, _ => trivial
  | _ :: _, _ :: _, n + 1, ⟨_, b⟩ => All2.drop n b
  | [], _ :: _, _ + 1, h => h.elim
  | _ :: _, [], _ + 1, h => h.elim
theorem All2.set {v : V} {x : α} (h : r v x) : ∀ {vs : List V} {xs : List α} (i : Nat), All2 r vs xs → All2 r (vs.set i v) (xs.set i x)
  | [], [], _, _ => trivial
  | _ :: _, _ :: _, 0, ⟨_, b⟩ => ⟨h, b⟩
  | _ :: _, _ :: _, i + 1, ⟨a, b⟩ => ⟨a, All2.set h i b⟩
  | [], _ :: _, _, h => h.elim
  | _ :: _, [], _, h => h.elim
theorem All2.ofMap (f : α → V) (h : ∀ x, r (f x) x) : ∀ (xs : List α), All2 r (xs.map f) xs
  | [] => trivial
  | x :: xs => ⟨h x, All2.ofMap f h xs⟩
theorem All2.toMap (f : α → V) (h : ∀ v x, r v x → v = f x) : ∀ {vs : List V} {xs : List α}, All2 r vs xs → vs = xs.map f
  | [], [], _ => rfl
  | _ :: _, _ :: _, ⟨a, b⟩ => by rw [h _ _ a, All2.toMap f h b]; rfl
  | [], _ :: _, h => h.elim
  | _ :: _, [], h => h.elim
end
/-! ### kinds of values -/
def tV : Ty V := ⟨fun _ v x => v = x, fun _ h => h⟩
def tInt : Ty Int := ⟨fun _ v x => v = .int x, fun _ h => h⟩
def tBl : Ty Bool := ⟨fun _ v x => v = .bl x, fun _ h => h⟩
def tSt : Ty Str := ⟨fun _ v x => v = .str x, fun _ h => h⟩
def tRf : Ty Addr := ⟨fun _ v x => v = .ref x, fun _ h => h⟩
def tNn : Ty Unit := ⟨fun _ v _ => v = .non, fun _ h => h⟩
theorem sqT_mono {K : PySem.W.Frag} {H H' : Hp} {a : Addr} {xs : List V} (e : Same H H') (h : SqT K H a xs) : SqT K H' a xs := by
  rcases h with (h | ⟨o, h⟩) | h
  · exact .inl (.inl (e _ _ h))
  · exact .inl (.inr ⟨o, e _ _ h⟩)
  · exact .inr h
def tFr (K : PySem.W.Frag) : Ty Rat := ⟨fun H v x => ∃ p, v = .ref p ∧ SqT K H p [.int x.num, .int (x.den : Int)], fun e ⟨p, h, g⟩ => ⟨p, h, sqT_mono e g⟩⟩
def tPr (K : PySem.W.Frag) {α β : Type} (t : Ty α) (u : Ty β) : Ty (α × β) := ⟨fun H v x => ∃ p a b, v = .ref p ∧ SqT K H p [a, b] ∧ t.r H a x.1 ∧ u.r H b x.2, fun e ⟨p, a, b, h, g, h1, h2⟩ => ⟨p, a, b, h, sqT_mono e g, t.mono e h1, u.mono e h2⟩⟩
/-- a tuple of such and such -/
def tTp (K : PySem.W.Frag) (α : Type) (fs : α → List SF) : Ty α := ⟨fun H v x => ∃ p vs, v = .ref p ∧ SqT K H p vs ∧ Fits H (fs x) vs, fun e ⟨p, vs, h, g, h1⟩ => ⟨p, vs, h, sqT_mono e g, h1.mono e⟩⟩
def tLs (K : PySem.W.Frag) {α : Type} (t : Ty α) : Ty (List α) := ⟨fun H v xs => ∃ p vs, v = .ref p ∧ H p = some (.lst vs) ∧ All2 (t.r H) vs xs, fun e ⟨p, vs, h, g, h1⟩ => ⟨p, vs, h, e _ _ g, All2.mono (fun _ _ => t.mono e) h1⟩⟩
def tSc (K : PySem.W.Frag) : Ty (List Int) := ⟨fun H v xs => ∃ p, v = .ref p ∧ SqL K H p (xs.map V.int), fun e ⟨p, h, g⟩ => ⟨p, h, e.seq g⟩⟩
def cLs {α : Type} (t : Ty α) (xs : List α) : CF := ⟨fun H o => ∃ vs, o = .lst vs ∧ All2 (t.r H) vs xs, fun e ⟨vs, h, g⟩ => ⟨vs, h, All2.mono (fun _ _ => t.mono e) g⟩⟩
/-! ### the judgements -/
def Ev {α : Type} (W : Wd) (te : TE) (t : Ty α) (x : α) : Prop := ∀ σ H, Ok W σ H → ∀ Q : VK, (∀ v H', Go1 W σ H H' → t.r (hid W.S H') v x → Q v H') → te σ H Q
def Et (W : Wd) (tt : TT) (b : Bool) : Prop := ∀ σ H, Ok W σ H → ∀ Q : Bool → Hp → Prop, (∀ H', Go1 W σ H H' → Q b H') → tt σ H Q
def Ea (W : Wd) (ta : TA) (fs : List SF) : Prop := ∀ σ H, Ok W σ H → ∀ Q : List V → Hp → Prop, (∀ vs H', Go1 W σ H H' → Fits (hid W.S H') fs vs → Q vs H') → ta σ H Q
/-- as Ev, of one of several values -/
def Evx {α : Type} (W : Wd) (te : TE) (t : Ty α) (P : α → Prop) : Prop := ∀ σ H, Ok W σ H → ∀ Q : VK, (∀ v x H', P x → Go1 W σ H H' → t.r (hid W.S H') v x → Q v H') → te σ H Q
theorem Ev.x {α : Type} {W : Wd} {te : TE} {t : Ty α} {x : α} {P : α → Prop} (h : Ev W te t x) (p : P x) : Evx W te t P := fun σ H o Q q => h σ H o Q fun v H' g r => q v x H' p g r
theorem Evx.ev {α : Type} {W : Wd} {te : TE} {t : Ty α} {x : α} (h : Evx W te t (fun y => y = x)) : Ev W te t x := fun σ H o Q q => h σ H o Q fun v y H' p g r => q v H' g (p ▸ r)
/-- a def that leaves all as it was but the things C, which keep what they promise -/
def spN {α β : Type} (C : α → List RS) (A : α → List SF) (w : Ty β) (pre : α → Prop) (post : α → β → Prop) : Sp := fun vs H Q _ => ∃ (S : List Addr) (x : α), (∀ a ∈ S, H a ≠ none) ∧ (fps (C x)).Nodup ∧ (∀ a, a ∈ fps (C x) → a ∈ S) ∧ RsAt (C x) S H ∧
  Fits (hid S H) (A x) vs ∧ pre x ∧ ∀ v y H', post x y → Bt (fps (C x)) H H' → (∀ a, a ∈ fps (C x) → H' a ≠ none) → RsAt (C x) S H' → w.r (hid S H') v y → Q v H'
def spP {α β : Type} (A : α → List SF) (w : Ty β) (pre : α → Prop) (f : α → β) : Sp := spN (fun _ => []) A w pre (fun x y => y = f x)
section
variable {α β γ : Type} {W : Wd} {K : PySem.W.Frag} {ta tb tc : TE} {t : Ty α} {u : Ty β} {x : α} {y : β} {tt uu : TT} {ar : TA} {fs : List SF} {i j : Int} {E : XK}
theorem ev_is {x' : α} (h : Ev W ta t x) (e : x = x') : Ev W ta t x' := e ▸ h
theorem ev_to {u : Ty β} {y : β} (h : Ev W ta t x) (e : ∀ H v, t.r H v x → u.r H v y) : Ev W ta u y := fun σ H o Q q => h σ H o Q fun v H' g r => q v H' g (e _ _ r)
theorem ev_var {n : Nat} (h : W.G[n]? = some (some (t.is x))) : Ev W (tVar n) t x := fun σ H o Q q => by
  obtain ⟨v, h1, h2⟩ := o.slots n _ h
  exact ⟨v, h1, q v H (Go1.refl o) h2⟩
theorem ev_c {v : V} : Ev W (tC v) tV v := fun σ H o Q q => q v H (Go1.refl o) rfl
theorem ev_int : Ev W (tC (.int i)) tInt i := fun σ H o Q q => q _ H (Go1.refl o) rfl
theorem ev_str {z : Str} : Ev W (tC (.str z)) tSt z := fun σ H o Q q => q _ H (Go1.refl o) rfl
theorem ev_bl {b : Bool} : Ev W (tC (.bl b)) tBl b := fun σ H o Q q => q _ H (Go1.refl o) rfl
theorem ev_non : Ev W (tC .non) tNn () := fun σ H o Q q => q _ H (Go1.refl o) rfl
/-- a constant of the written part -/
theorem ev_k {a : Addr} (h : ∀ H, t.r H (.ref a) x) : Ev W (tC (.ref a)) t x := fun σ H o Q q => q _ H (Go1.refl o) (h _)
theorem ev_add (ha : Ev W ta tInt i) (hb : Ev W tb tInt j) : Ev W (tOp (rI0 fun i j => .int (i + j)) ta tb) tInt (i + j) := fun σ H o Q q =>
  ha σ H o _ fun v H1 g1 r1 => hb σ H1 g1.ok _ fun v2 H2 g2 r2 => ⟨i, j, r1, r2, q _ H2 (g1.trans g2) rfl⟩
theorem ev_sub (ha : Ev W ta tInt i) (hb : Ev W tb tInt j) : Ev W (tOp (rI0 fun i j => .int (i - j)) ta tb) tInt (i - j) := fun σ H o Q q =>
  ha σ H o _ fun v H1 g1 r1 => hb σ H1 g1.ok _ fun v2 H2 g2 r2 => ⟨i, j, r1, r2, q _ H2 (g1.trans g2) rfl⟩
theorem ev_mul (ha : Ev W ta tInt i) (hb : Ev W tb tInt j) (k : IntMulOk i j) : Ev W (tOp (rI IntMulOk fun i j => .int (i * j)) ta tb) tInt (i * j) := fun σ H o Q q =>
  ha σ H o _ fun v H1 g1 r1 => hb σ H1 g1.ok _ fun v2 H2 g2 r2 => ⟨i, j, r1, r2, k, q _ H2 (g1.trans g2) rfl⟩
theorem ev_fdiv (ha : Ev W ta tInt i) (hb : Ev W tb tInt j) (k : CDivA i j) : Ev W (tOp (rI CDivA fun i j => .int (i.fdiv j)) ta tb) tInt (i.fdiv j) := fun σ H o Q q =>
  ha σ H o _ fun v H1 g1 r1 => hb σ H1 g1.ok _ fun v2 H2 g2 r2 => ⟨i, j, r1, r2, k, q _ H2 (g1.trans g2) rfl⟩
theorem ev_mod (ha : Ev W ta tInt i) (hb : Ev W tb tInt j) (k : 0 < j) : Ev W (tOp (rI (fun _ j => 0 < j) fun i j => .int (i % j)) ta tb) tInt (i % j) := fun σ H o Q q =>
  ha σ H o _ fun v H1 g1 r1 => hb σ H1 g1.ok _ fun v2 H2 g2 r2 => ⟨i, j, r1, r2, k, q _ H2 (g1.trans g2) rfl⟩
theorem ev_neg (ha : Ev W ta tInt i) : Ev W (tUn (rU fun i => .int (-i)) ta) tInt (-i) := fun σ H o Q q => ha σ H o _ fun v H1 g1 r1 => ⟨i, r1, q _ H1 g1 rfl⟩
/-- comparisons of ints, as values and as tests -/
theorem ev_cmp {g : Int → Int → Bool} (ha : Ev W ta tInt i) (hb : Ev W tb tInt j) : Ev W (tOp (rI0 fun i j => .bl (g i j)) ta tb) tBl (g i j) := fun σ H o Q q =>
  ha σ H o _ fun v H1 g1 r1 => hb σ H1 g1.ok _ fun v2 H2 g2 r2 => ⟨i, j, r1, r2, q _ H2 (g1.trans g2) rfl⟩
theorem et_cmp {g : Int → Int → Bool} (ha : Ev W ta tInt i) (hb : Ev W tb tInt j) : Et W (tTest (tOp (rI0 fun i j => .bl (g i j)) ta tb)) (g i j) := fun σ H o Q q =>
  ha σ H o _ fun v H1 g1 r1 => hb σ H1 g1.ok _ fun v2 H2 g2 r2 => ⟨i, j, r1, r2, _, rfl, q H2 (g1.trans g2)⟩
theorem et_of {b : Bool} (ha : Ev W ta tBl b) : Et W (tTest ta) b := fun σ H o Q q => ha σ H o _ fun v H1 g1 r1 => ⟨b, r1, q H1 g1⟩
theorem et_B {b : Bool} (ha : Ev W ta tBl b) : Et W (tB ta) b := fun σ H o Q q => ha σ H o _ fun v H1 g1 r1 => ⟨b, r1, q H1 g1⟩
theorem et_is {b c : Bool} (h : Et W tt b) (e : b = c) : Et W tt c := e ▸ h
theorem et_not {b : Bool} (h : Et W tt b) : Et W (tNot tt) (!b) := fun σ H o Q q => h σ H o _ fun H1 g1 => q H1 g1
theorem et_and {b c : Bool} (h : Et W tt b) (g : b = true → Et W uu c) : Et W (tAnd tt uu) (b && c) := fun σ H o Q q => h σ H o _ fun H1 g1 => by
  cases b with
  | true =>
    show uu σ H1 Q
    exact g rfl σ H1 g1.ok Q fun H2 g2 => q H2 (g1.trans g2)
  | false => exact q H1 g1
theorem et_or {b c : Bool} (h : Et W tt b) (g : b = false → Et W uu c) : Et W (tOr tt uu) (b || c) := fun σ H o Q q => h σ H o _ fun H1 g1 => by
  cases b with
  | true => exact q H1 g1
  | false =>
    show uu σ H1 Q
    exact g rfl σ H1 g1.ok Q fun H2 g2 => q H2 (g1.trans g2)
theorem ev_andV {b c : Bool} (h : Ev W ta tBl b) (g : b = true → Ev W tb tBl c) : Ev W (tAndV ta tb) tBl (b && c) := fun σ H o Q q => h σ H o _ fun v H1 g1 r1 => ⟨b, r1, by
  cases b with
  | true =>
    show tb σ H1 Q
    exact g rfl σ H1 g1.ok Q fun v H2 g2 r => q v H2 (g1.trans g2) r
  | false => exact q _ H1 g1 rfl⟩
theorem ev_orV {b c : Bool} (h : Ev W ta tBl b) (g : b = false → Ev W tb tBl c) : Ev W (tOrV ta tb) tBl (b || c) := fun σ H o Q q => h σ H o _ fun v H1 g1 r1 => ⟨b, r1, by
  cases b with
  | true => exact q _ H1 g1 rfl
  | false =>
    show tb σ H1 Q
    exact g rfl σ H1 g1.ok Q fun v H2 g2 r => q v H2 (g1.trans g2) r⟩
theorem ev_notV {b : Bool} (h : Ev W ta tBl b) : Ev W (tNotV ta) tBl (!b) := fun σ H o Q q => h σ H o _ fun v H1 g1 r1 => ⟨b, r1, q _ H1 g1 rfl⟩
theorem ev_if {b : Bool} (h : Et W tt b) (ha : b = true → Ev W ta t x) (hb : b = false → Ev W tb t x) : Ev W (tIf tt ta tb) t x := fun σ H o Q q => h σ H o _ fun H1 g1 => by
  cases b with
  | true =>
    show ta σ H1 Q
    exact ha rfl σ H1 g1.ok Q fun v H2 g2 r => q v H2 (g1.trans g2) r
  | false =>
    show tb σ H1 Q
    exact hb rfl σ H1 g1.ok Q fun v H2 g2 r => q v H2 (g1.trans g2) r
theorem ea_nil : Ea W tNil [] := fun σ H o Q q => q [] H (Go1.refl o) trivial
theorem ea_cons (ha : Ev W ta t x) (hr : Ea W ar fs) : Ea W (tCons ta ar) (t.is x :: fs) := fun σ H o Q q =>
  ha σ H o _ fun v H1 g1 r1 => hr σ H1 g1.ok _ fun vs H2 g2 r2 => q (v :: vs) H2 (g1.trans g2) ⟨t.mono g2.up r1, r2⟩
/-- a written tuple -/
theorem ev_tup {fs' : α → List SF} (h : Ea W ar fs) (e : fs' x = fs) (hl : fs.length ≤ sizeLine := by decide) : Ev W (tTup ar) (tTp K α fs') x := fun σ H o Q q =>
  h σ H o _ fun vs H1 g1 r1 => ⟨by rw [r1.length]; exact hl, fun p np => q _ _ (g1.trans (g1.ok.new np)) ⟨p, vs, rfl, SqT.of (by rw [hid_of (g1.ok.off np)]; exact upd_same), by rw [e]; exact r1.mono (g1.ok.new np).up⟩⟩
theorem ev_pr (ha : Ev W ta t x) (hb : Ev W tb u y) : Ev W (tTup (tCons ta (tCons tb tNil))) (tPr K t u) (x, y) := fun σ H o Q q =>
  ha σ H o _ fun v H1 g1 r1 => hb σ H1 g1.ok _ fun v2 H2 g2 r2 => ⟨by show 2 ≤ sizeLine; decide, fun p np => q _ _ ((g1.trans g2).trans (g2.ok.new np))
    ⟨p, v, v2, rfl, SqT.of (by rw [hid_of (g2.ok.off np)]; exact upd_same), t.mono (g2.up.trans (g2.ok.new np).up) r1, u.mono (g2.ok.new np).up r2⟩⟩
theorem ev_fst (h : Ev W ta (tPr K t u) (x, y)) : Ev W (tOp (rIxT K) ta (tC (.int 0))) t x := fun σ H o Q q =>
  h σ H o _ fun v H1 g1 ⟨p, a, b, e, s, r1, r2⟩ => ⟨p, [a, b], 0, a, e, rfl, sqT_mono hid_sub s, rfl, q a H1 g1 r1⟩
theorem ev_snd (h : Ev W ta (tPr K t u) (x, y)) : Ev W (tOp (rIxT K) ta (tC (.int 1))) u y := fun σ H o Q q =>
  h σ H o _ fun v H1 g1 ⟨p, a, b, e, s, r1, r2⟩ => ⟨p, [a, b], 1, b, e, rfl, sqT_mono hid_sub s, rfl, q b H1 g1 r2⟩
theorem ev_num {r : Rat} (h : Ev W ta (tFr K) r) : Ev W (tOp (rIxT K) ta (tC (.int 0))) tInt r.num := fun σ H o Q q =>
  h σ H o _ fun v H1 g1 ⟨p, e, s⟩ => ⟨p, _, 0, _, e, rfl, sqT_mono hid_sub s, rfl, q _ H1 g1 rfl⟩
theorem ev_den {r : Rat} (h : Ev W ta (tFr K) r) : Ev W (tOp (rIxT K) ta (tC (.int 1))) tInt (r.den : Int) := fun σ H o Q q =>
  h σ H o _ fun v H1 g1 ⟨p, e, s⟩ => ⟨p, _, 1, _, e, rfl, sqT_mono hid_sub s, rfl, q _ H1 g1 rfl⟩
/-- an item of a tuple -/
theorem ev_item {fs' : α → List SF} {n : Nat} {u : Ty β} {y : β} (h : Ev W ta (tTp K α fs') x) (e : (fs' x)[n]? = some (u.is y)) : Ev W (tOp (rIxT K) ta (tC (.int (n : Int)))) u y := fun σ H o Q q =>
  h σ H o _ fun v H1 g1 ⟨p, vs, ev, s, ft⟩ => by
    obtain ⟨z, hz, rz⟩ := ft.get e
    exact ⟨p, vs, n, z, ev, rfl, sqT_mono hid_sub s, atI_nat hz, q z H1 g1 rz⟩
/-- a fraction written as a pair -/
theorem ev_frac {p q : Int} {r : Rat} (ha : Ev W ta tInt p) (hb : Ev W tb tInt q) (hp : r.num = p) (hq : (r.den : Int) = q) : Ev W (tTup (tCons ta (tCons tb tNil))) (tFr K) r := fun σ H o Q k =>
  ha σ H o _ fun v H1 g1 r1 => hb σ H1 g1.ok _ fun v2 H2 g2 r2 => ⟨by show 2 ≤ sizeLine; decide, fun p np => k _ _ ((g1.trans g2).trans (g2.ok.new np)) ⟨p, rfl, SqT.of (by
    rw [hid_of (g2.ok.off np), upd_same, hp, hq]
    cases r1; cases r2; rfl)⟩⟩
/-- a list's item by its place -/
theorem ev_ixL {xs : List α} {n : Int} {t : Ty α} (h : Ev W ta (tLs K t) xs) (hb : Ev W tb tInt n) (e : atI xs n = some x) : Ev W (tOp (rIxL K) ta tb) t x := fun σ H o Q q =>
  h σ H o _ fun v H1 g1 r1 => hb σ H1 g1.ok _ fun v2 H2 g2 r2 => by
    obtain ⟨p, vs, ev, s, al⟩ := (tLs K t).mono g2.up r1
    have : ∃ z, atI vs n = some z ∧ t.r (hid W.S H2) z x := by
      unfold atI at e ⊢
      rw [al.length]
      cases c : ixN xs.length n with
      | none => rw [c] at e; cases e
      | some k =>
        rw [c] at e
        exact al.get e
    obtain ⟨z, hz, rz⟩ := this
    exact ⟨p, vs, n, z, ev, r2, (SqL.of (hid_sub _ _ s)), hz, q z H2 (g1.trans g2) rz⟩
/-- len of a list -/
theorem ev_len {xs : List α} {t : Ty α} (h : Ev W ta (tLs K t) xs) : Ev W (tCB (fun xs H Q => ∃ p ys, xs = [.ref p] ∧ (SqL K H p ys ∨ SqT K H p ys) ∧ Q (.int ys.length) H) (tCons ta tNil)) tInt (xs.length : Int) := fun σ H o Q q =>
  h σ H o _ fun v H1 g1 ⟨p, vs, ev, s, al⟩ => ⟨p, vs, by rw [ev], .inl ((SqL.of (hid_sub _ _ s))), q _ H1 g1 (by rw [al.length]; rfl)⟩
theorem ev_lenS {z : Str} (h : Ev W ta tSt z) (hl : z.length ≤ sizeLine) : Ev W (tCB (fun xs H Q => ∃ z : Str, xs = [.str z] ∧ z.length ≤ sizeLine ∧ Q (.int z.length) H) (tCons ta tNil)) tInt (z.length : Int) := fun σ H o Q q =>
  h σ H o _ fun v H1 g1 e => ⟨z, by rw [show v = .str z from e], hl, q _ H1 g1 rfl⟩
/-- list(xs) -/
theorem ev_list {xs : List α} {t : Ty α} (h : Ev W ta (tLs K t) xs) : Ev W (tCB (fun xs H Q => ∃ p ys, xs = [.ref p] ∧ (SqL K H p ys ∨ SqT K H p ys) ∧ ∀ l, H l = none → Q (.ref l) (upd H l (.lst ys))) (tCons ta tNil)) (tLs K t) xs := fun σ H o Q q =>
  h σ H o _ fun v H1 g1 ⟨p, vs, ev, s, al⟩ => ⟨p, vs, by rw [ev], .inl ((SqL.of (hid_sub _ _ s))), fun l nl => q _ _ (g1.trans (g1.ok.new nl)) ⟨l, vs, rfl, (by rw [hid_of (g1.ok.off nl)]; exact upd_same), All2.mono (fun _ _ => t.mono (g1.ok.new nl).up) al⟩⟩
theorem ev_abs (h : Ev W ta tInt i) : Ev W (tCB (fun xs H Q => ∃ i, xs = [.int i] ∧ Q (.int (if i < 0 then -i else i)) H) (tCons ta tNil)) tInt (if i < 0 then -i else i) := fun σ H o Q q =>
  h σ H o _ fun v H1 g1 e => ⟨i, by rw [show v = .int i from e], q _ H1 g1 rfl⟩
theorem ev_int1 (h : Ev W ta tInt i) : Ev W (tCB (fun xs H Q => (∃ i, xs = [.int i] ∧ Q (.int i) H) ∨ ∃ k, xs = [.bl k] ∧ Q (.int (if k then 1 else 0)) H) (tCons ta tNil)) tInt i := fun σ H o Q q =>
  h σ H o _ fun v H1 g1 e => .inl ⟨i, by rw [show v = .int i from e], q _ H1 g1 rfl⟩
theorem ev_strI (h : Ev W ta tInt i) (hi : i.natAbs.log2 < 1920) : Ev W (tCB (fun xs H Q => ∃ i : Int, xs = [.int i] ∧ i.natAbs.log2 < 1920 ∧ Q (.str (toString i)) H) (tCons ta tNil)) tSt (Str.ofString (toString i)) := fun σ H o Q q =>
  h σ H o _ fun v H1 g1 e => ⟨i, by rw [show v = .int i from e], hi, q _ H1 g1 rfl⟩
/-- a call of a def -/
theorem evx_call {C : γ → List RS} {A : γ → List SF} {w : Ty β} {pre : γ → Prop} {post : γ → β → Prop} {z : γ} (h : Ea W ar (A z)) (hp : pre z) (hC : (C z).Sublist W.L := by first | exact List.nil_sublist _ | exact List.Sublist.refl _ | exact List.singleton_sublist.mpr (by simp) | simp) :
    Evx W (tCall (spN C A w pre post) [] E ar) w (post z) := fun σ H o Q q => h σ H o _ fun vs H1 g1 r1 => by
  have sub : ∀ a, a ∈ fps (C z) → a ∈ W.S := fun a m => by
    obtain ⟨r, m1, m2⟩ := of_fps m
    exact (g1.ok.own a (mem_fps (hC.subset m1) m2)).1
  refine ⟨W.S, z, g1.ok.al, ?_, sub, fun r m => g1.ok.at_ r (hC.subset m), by rw [List.append_nil]; exact r1, hp, fun v y H2 py b al c r => ?_⟩
  · exact (fps_sub hC).nodup g1.ok.nod
  · exact q v y H2 py (g1.trans (g1.ok.after (fun r m => hC.subset m) b al c)) r
theorem ev_call {A : γ → List SF} {w : Ty β} {pre : γ → Prop} {f : γ → β} {z : γ} (h : Ea W ar (A z)) (hp : pre z) : Ev W (tCall (spP A w pre f) [] E ar) w (f z) := (evx_call h hp).ev
end
end Cs
set_option maxHeartbeats 4000000
namespace Cs
open PySem PySem.Spec PyProof.Rows L2
/-! ### statements -/
def Go (W : Wd) (ts : TS) (D : Ends) : Prop := ∀ σ H, Ok W σ H → ts D σ H
def Wd.at (W : Wd) (i : Nat) (f : SF) : Wd := { W with G := W.G.set i (some f) }
def Wd.no (W : Wd) (i : Nat) : Wd := { W with G := W.G.set i none }
/-- what holds in W holds in W' -/
def Wk (W W' : Wd) : Prop := ∀ σ H, Ok W σ H → Ok W' σ H
theorem Wk.refl {W : Wd} : Wk W W := fun _ _ h => h
theorem Wk.trans {W W1 W2 : Wd} (a : Wk W W1) (b : Wk W1 W2) : Wk W W2 := fun σ H h => b σ H (a σ H h)
/-- slots and facts are forgotten -/
theorem Wk.of {H0 : Hp} {M S : List Addr} {L : List RS} {F F' : List FF} {G G' : List (Option SF)} (hl : G.length = G'.length) (h : ∀ (i : Nat) (f : SF), G'[i]? = some (some f) → G[i]? = some (some f)) (hF : ∀ f, f ∈ F' → f ∈ F) : Wk ⟨H0, M, S, L, F, G⟩ ⟨H0, M, S, L, F', G'⟩ := fun σ H o =>
  ⟨o.nod, o.own, o.at_, o.ms, o.al, o.bt, o.len.trans hl, fun f m => o.facts f (hF f m), fun i f g => o.slots i f (h i f g)⟩
section
variable {α β γ : Type} {W W' : Wd} {K : PySem.W.Frag} {ta tb tc : TE} {t : Ty α} {u : Ty β} {x : α} {y : β} {tt uu : TT} {ar : TA} {fs : List SF} {ts us : TS} {D : Ends} {σ : L2.St} {H : Hp} {i : Nat}
theorem go_wk (w : Wk W W') (h : Go W' ts D) : Go W ts D := fun σ H o => h σ H (w σ H o)
theorem ev_wk (w : Wk W W') (up : W.S = W'.S) (hb : Wk W' W) (h : Ev W' ta t x) : Ev W ta t x := fun σ H o Q q => h σ H (w σ H o) Q fun v H' g r => q v H' ⟨hb _ _ g.ok, by rw [up]; exact g.up⟩ (by rw [up]; exact r)
theorem Ok.put {v : V} {f : SF} (o : Ok W σ H) (h : f.p (hid W.S H) v) : Ok (W.at i f) (σ.set i (some v)) H :=
  ⟨o.nod, o.own, o.at_, o.ms, o.al, o.bt, by show (σ.set i (some v)).length = (W.G.set i (some f)).length; rw [List.length_set, List.length_set]; exact o.len, o.facts, fun j g q => by
    have q : (W.G.set i (some f))[j]? = some (some g) := q
    by_cases e : i = j
    · subst e
      rw [List.getElem?_set] at q
      by_cases l : i < W.G.length
      · rw [if_pos rfl, if_pos l] at q
        obtain rfl : f = g := Option.some.inj (Option.some.inj q)
        exact ⟨v, by rw [List.getElem?_set, if_pos rfl, if_pos (by rw [o.len]; exact l)], h⟩
      · rw [if_pos rfl, if_neg l] at q; cases q
    · rw [List.getElem?_set, if_neg e] at q
      obtain ⟨w, h1, h2⟩ := o.slots j g q
      exact ⟨w, by rw [List.getElem?_set, if_neg e]; exact h1, h2⟩⟩
theorem Ok.know {f : FF} (o : Ok W σ H) (h : f.p (hid W.S H)) : Ok { W with F := f :: W.F } σ H :=
  ⟨o.nod, o.own, o.at_, o.ms, o.al, o.bt, o.len, fun g m => by
    rcases List.mem_cons.mp m with m | m
    · rw [m]; exact h
    · exact o.facts g m, o.slots⟩
theorem go_set (h : Ev W ta t x) (k : Go (W.at i (t.is x)) us D) : Go W (tSeq (tAsg ta (gName i)) us) D := fun σ H o => h σ H o _ fun v H1 g r => k _ _ (g.ok.put r)
theorem go_set1 (h : Ev W ta t x) (k : ∀ σ H, Ok (W.at i (t.is x)) σ H → D.nx σ H) : Go W (tAsg ta (gName i)) D := fun σ H o => h σ H o _ fun v H1 g r => k _ _ (g.ok.put r)
/-- the value is known, some further facts of it too -/
theorem go_seq (h : Go W ts { D with nx := us D }) : Go W (tSeq ts us) D := h
theorem go_next (h : ∀ σ H, Ok W σ H → D.nx σ H) : Go W tNext D := h
theorem go_if {b : Bool} (h : Et W tt b) (h1 : b = true → Go W ts D) (h2 : b = false → Go W us D) : Go W (tIfS tt ts us) D := fun σ H o => h σ H o _ fun H1 g => by
  cases b with
  | true => exact h1 rfl σ H1 g.ok
  | false => exact h2 rfl σ H1 g.ok
/-- if .. : return | raise (and then go on) -/
theorem go_ifr {b : Bool} {vs : TS} (h : Et W tt b) (h1 : b = true → Go W ts { D with nx := vs D }) (h2 : b = false → Go W vs D) : Go W (tSeq (tIfS tt ts tNext) vs) D := go_if h h1 h2
theorem go_ret (h : Ev W ta t x) (k : ∀ σ v H, Ok W σ H → t.r (hid W.S H) v x → D.rt v H) : Go W (tRet ta) D := fun σ H o => h σ H o _ fun v H1 g r => k σ v H1 g.ok r
theorem go_drop (h : Ev W ta t x) (k : Go W us D) : Go W (tSeq (tDrop ta) us) D := fun σ H o => h σ H o _ fun v H1 g r => k _ _ g.ok
/-- what a promise wants at its end -/
def Rt (C : List RS) (S : List Addr) (H : Hp) (w : Ty β) (P : β → Prop) (Q : VK) : Prop := ∀ v y H', P y → Bt (fps C) H H' → (∀ a, a ∈ fps C → H' a ≠ none) → RsAt C S H' → w.r (hid S H') v y → Q v H'
theorem Ok.rsAt {C : List RS} {S : List Addr} (o : Ok W σ H) (hC : ∀ c ∈ C, c ∈ W.L) (hS : ∀ a, a ∈ S → a ∈ W.S) : RsAt C S H := fun r m => r.mono (hid_less hS) (o.at_ r (hC r m))
theorem go_endx {C : List RS} {S : List Addr} {w : Ty β} {P : β → Prop} {Q : VK} (h : Evx W ta w P) (out : Rt C S W.H0 w P Q) (hM : W.M = fps C := by rfl) (hC : ∀ c ∈ C, c ∈ W.L := by first | (intro c z; cases z) | (intro c z; exact z) | simp) (hS : ∀ a, a ∈ S → a ∈ W.S := by first | (intro a z; exact z) | (intro a z; exact List.mem_cons_of_mem _ z) | (intro a z; exact List.mem_cons_of_mem _ (List.mem_cons_of_mem _ z)) | simp) (hD : D.rt = Q := by rfl) : Go W (tRet ta) D := fun σ H o =>
  h σ H o _ fun v y H1 p g r => by
    rw [hD]
    exact out v y H1 p (by rw [← hM]; exact g.ok.bt) (fun a m => g.ok.al a (g.ok.ms a (by rw [hM]; exact m))) (g.ok.rsAt hC hS) (w.mono (hid_less hS) r)
theorem go_end {C : List RS} {S : List Addr} {w : Ty β} {P : β → Prop} {Q : VK} (h : Ev W ta w y) (out : Rt C S W.H0 w P Q) (hp : P y := by rfl) (hM : W.M = fps C := by rfl) (hC : ∀ c ∈ C, c ∈ W.L := by first | (intro c z; cases z) | (intro c z; exact z) | simp) (hS : ∀ a, a ∈ S → a ∈ W.S := by first | (intro a z; exact z) | (intro a z; exact List.mem_cons_of_mem _ z) | (intro a z; exact List.mem_cons_of_mem _ (List.mem_cons_of_mem _ z)) | simp) (hD : D.rt = Q := by rfl) : Go W (tRet ta) D :=
  go_endx (h.x hp) out hM hC hS hD
/-! ### a def keeps its promise -/
theorem ok_N {P : Program} {w : World} {mg : Str → Option Value} {base : Heap} {nm qual : Str} {st : Stmt} {f : Addr} {fd : FuncData} {N ps : List Str} {k : Nat} {C : α → List RS} {A : α → List SF} {wt : Ty β} {pre : α → Prop} {post : α → β → Prop}
    (F : Fun K nm qual st f fd) (S : FnScope N ps (defScope st)) (hl : ∀ x, (A x).length = ps.length)
    (body : ∀ (cdv : Value) (A' : Around) (outer : List Env) (s : Shared) (H0 : Hp) (S : List Addr) (x : α) (Q : VK) (E : XK), Room k (A'.deeper (envOfC qual (defScope st) s.heap.objs.size f cdv)) → pre x → Rt (C x) S H0 wt (post x) Q →
      ∃ t, PSs (cxOf CX0 P w K mg base N qual (defScope st) f cdv A' outer s H0 E).nox (defBody st) t ∧ Go ⟨H0, fps (C x), S, C x, [], (A x).map some ++ List.replicate (N.length - ps.length) none⟩ t { nx := fun _ H' => Q .non H', rt := Q }) :
    FnOk P w K mg base CX0 (k + 1) f fd ps (spN C A wt pre post) := by
  refine F.ok S (fun vs H Q E h => ?_) (fun cdv A' outer s H vs Q E hr h => ?_)
  · obtain ⟨S', x, _, _, _, _, ft, _⟩ := h
    rw [ft.length, hl]
  · obtain ⟨S', x, al, nd, sub, cc, ft, hp, out⟩ := h
    obtain ⟨t, h1, h2⟩ := body cdv A' outer s H S' x Q E hr hp (fun v y H' => out v y H')
    refine ⟨t, h1, h2 _ _ ⟨nd, fun a m => ⟨sub a m, .inl m⟩, cc, sub, al, Bt.refl, ?_, (fun f m => nomatch m), fun i f' q => ?_⟩⟩
    · show (L2.start N vs).length = ((A x).map some ++ List.replicate (N.length - ps.length) none).length
      unfold L2.start
      have e1 := ft.length
      have e2 := hl x
      simp only [List.length_append, List.length_map, List.length_replicate]
      omega
    · have q : ((A x).map some ++ List.replicate (N.length - ps.length) none)[i]? = some (some f') := q
      unfold L2.start
      by_cases l : i < (A x).length
      · rw [List.getElem?_append_left (by simpa using l), List.getElem?_map] at q
        cases c : (A x)[i]? with
        | none => rw [c] at q; cases q
        | some z =>
          rw [c] at q
          obtain rfl : z = f' := Option.some.inj (Option.some.inj q)
          obtain ⟨v, hv, hz⟩ := ft.get c
          exact ⟨v, by rw [List.getElem?_append_left (by simpa [ft.length] using l), List.getElem?_map, hv]; rfl, hz⟩
      · rw [List.getElem?_append_right (by simpa using l)] at q
        have := List.mem_of_getElem? q
        rw [List.mem_replicate] at this
        exact absurd this.2 (by simp)
theorem ok_P {P : Program} {w : World} {mg : Str → Option Value} {base : Heap} {nm qual : Str} {st : Stmt} {f : Addr} {fd : FuncData} {N ps : List Str} {k : Nat} {A : α → List SF} {wt : Ty β} {pre : α → Prop} {g : α → β}
    (F : Fun K nm qual st f fd) (S : FnScope N ps (defScope st)) (hl : ∀ x, (A x).length = ps.length)
    (body : ∀ (cdv : Value) (A' : Around) (outer : List Env) (s : Shared) (H0 : Hp) (S : List Addr) (x : α) (Q : VK) (E : XK), Room k (A'.deeper (envOfC qual (defScope st) s.heap.objs.size f cdv)) → pre x → Rt [] S H0 wt (fun y => y = g x) Q →
      ∃ t, PSs (cxOf CX0 P w K mg base N qual (defScope st) f cdv A' outer s H0 E).nox (defBody st) t ∧ Go ⟨H0, [], S, [], [], (A x).map some ++ List.replicate (N.length - ps.length) none⟩ t { nx := fun _ H' => Q .non H', rt := Q }) :
    FnOk P w K mg base CX0 (k + 1) f fd ps (spP A wt pre g) := ok_N F S hl body
/-! ### loops -/
/-- the list at p -/
def ffL (K : PySem.W.Frag) (t : Ty α) (p : Addr) (vs : List V) (xs : List α) : FF := ⟨fun H => SqL K H p vs ∧ All2 (t.r H) vs xs, fun e h => ⟨e.seq h.1, All2.mono (fun _ _ => t.mono e) h.2⟩⟩
/-- for x in xs: the world at each turn by a parameter -/
theorem go_forL {ι : Type} {xs : List α} (h : Ev W ta (tLs K t) xs) (J : Nat → ι → List RS × List (Option SF)) (Pv : Nat → ι → Prop) (c0 : ι) (p0 : Pv 0 c0) (w0 : Wk W { W with L := (J 0 c0).1, G := (J 0 c0).2 })
    (hs : ∀ k c x (F : List FF), (∀ f ∈ W.F, f ∈ F) → xs[k]? = some x → Pv k c → Go (Wd.at ⟨W.H0, W.M, W.S, (J k c).1, F, (J k c).2⟩ i (t.is x)) ts
      { D with nx := fun σ H => ∃ c', Pv (k + 1) c' ∧ Ok ⟨W.H0, W.M, W.S, (J (k + 1) c').1, F, (J (k + 1) c').2⟩ σ H, ct := fun σ H => ∃ c', Pv (k + 1) c' ∧ Ok ⟨W.H0, W.M, W.S, (J (k + 1) c').1, F, (J (k + 1) c').2⟩ σ H, bk := D.nx })
    (hd : ∀ c, Pv xs.length c → ∀ σ H, Ok { W with L := (J xs.length c).1, G := (J xs.length c).2 } σ H → D.nx σ H) :
    Go W (tFor (iList K ta) (gName i) ts) D := fun σ H o => by
  refine h σ H o _ fun v H1 g r => ?_
  obtain ⟨p, vs, rfl, hq, al⟩ := r
  refine ⟨p, rfl, ⟨vs, SqL.of (hid_sub _ _ hq)⟩, ?_⟩
  have hlen := al.length
  refine for_list (K := K) (a := p) (xs := vs) (fun k σ' H' => ∃ c, Pv k c ∧ Ok ⟨W.H0, W.M, W.S, (J k c).1, ffL K t p vs xs :: W.F, (J k c).2⟩ σ' H') ⟨c0, p0, Ok.know (w0 _ _ g.ok) ⟨SqL.of hq, al⟩⟩ (fun k σ' H' _ ⟨c, _, o'⟩ => hid_sub.seq (o'.facts (ffL K t p vs xs) (List.mem_cons_self ..)).1) ?_ ?_
  · rintro k w σ' H' hw ⟨c, pc, o'⟩
    obtain ⟨_, al'⟩ := o'.facts (ffL K t p vs xs) (List.mem_cons_self ..)
    obtain ⟨x, hx, rx⟩ := al'.getV hw
    exact hs k c x (ffL K t p vs xs :: W.F) (fun f m => List.mem_cons_of_mem _ m) hx pc _ _ (o'.put rx)
  · rintro σ' H' ⟨c, pc, o'⟩
    rw [hlen] at pc o'
    exact hd c pc _ _ ⟨o'.nod, o'.own, o'.at_, o'.ms, o'.al, o'.bt, o'.len, fun f m => o'.facts f (List.mem_cons_of_mem _ m), o'.slots⟩
/-- for x in range(n) -/
theorem go_range {ι : Type} {n : Int} (h : Ev W ta tInt n) (h1 : -(2 ^ 62) ≤ n) (h2 : n < 2 ^ 62) (J : Nat → ι → List RS × List (Option SF)) (Pv : Nat → ι → Prop) (c0 : ι) (p0 : Pv 0 c0) (w0 : Wk W { W with L := (J 0 c0).1, G := (J 0 c0).2 })
    (hs : ∀ k c, k < n.toNat → Pv k c → Go (Wd.at ⟨W.H0, W.M, W.S, (J k c).1, W.F, (J k c).2⟩ i (tInt.is (k : Int))) ts
      { D with nx := fun σ H => ∃ c', Pv (k + 1) c' ∧ Ok ⟨W.H0, W.M, W.S, (J (k + 1) c').1, W.F, (J (k + 1) c').2⟩ σ H, ct := fun σ H => ∃ c', Pv (k + 1) c' ∧ Ok ⟨W.H0, W.M, W.S, (J (k + 1) c').1, W.F, (J (k + 1) c').2⟩ σ H, bk := D.nx })
    (hd : ∀ c, Pv n.toNat c → ∀ σ H, Ok { W with L := (J n.toNat c).1, G := (J n.toNat c).2 } σ H → D.nx σ H) :
    Go W (tFor (iRng1 (tCons ta tNil)) (gName i) ts) D := fun σ H o => by
  refine h σ H o _ fun v H1 g r => ?_
  refine ⟨n, by rw [show v = .int n from r], h1, h2, ?_⟩
  refine for_range (lo := 0) (n := n.toNat) (fun k σ' H' => ∃ c, Pv k c ∧ Ok ⟨W.H0, W.M, W.S, (J k c).1, W.F, (J k c).2⟩ σ' H') ⟨c0, p0, w0 _ _ g.ok⟩ ?_ ?_
  · rintro k σ' H' hk ⟨c, pc, o'⟩
    exact hs k c hk pc _ _ (o'.put (v := .int (0 + (k : Int))) (by show V.int (0 + (k : Int)) = V.int (k : Int); rw [Int.zero_add]))
  · rintro σ' H' ⟨c, pc, o'⟩
    exact hd c pc _ _ o'
end
end Cs
set_option maxHeartbeats 4000000
namespace Cs
open PySem PySem.Spec PyProof.Rows L2
/-! ### lists that are made: comprehensions, appends -/
theorem wipe_set {σ : L2.St} {i : Nat} {x : Option V} : ∀ {vs : List Nat}, i ∈ vs → wipe (σ.set i x) vs = wipe σ vs
  | v :: vs, h => by
    unfold wipe
    by_cases e : i ∈ vs
    · rw [wipe_set e]
    · have : i = v := by
        rcases List.mem_cons.mp h with h | h
        · exact h
        · exact absurd h e
      subst this
      have key : ∀ (ws : List Nat), i ∉ ws → wipe (σ.set i x) ws = (wipe σ ws).set i x := by
        intro ws
        induction ws with
        | nil => intro _; rfl
        | cons w ws ih =>
          intro hn
          have h1 : i ≠ w := fun z => hn (z ▸ List.mem_cons_self ..)
          have h2 : i ∉ ws := fun z => hn (List.mem_cons_of_mem _ z)
          show (wipe (σ.set i x) ws).set w none = ((wipe σ ws).set w none).set i x
          rw [ih h2, List.set_comm _ _ (fun z => h1 z)]
      rw [key vs e, List.set_set]
theorem wipe_twice (σ : L2.St) (vs : List Nat) : wipe (wipe σ vs) vs = wipe σ vs := by
  have key : ∀ (ws us : List Nat), (∀ w ∈ ws, w ∈ us) → wipe (wipe σ ws) us = wipe σ us := by
    intro ws
    induction ws with
    | nil => intro us _; rfl
    | cons w ws ih =>
      intro us h
      show wipe ((wipe σ ws).set w none) us = _
      rw [wipe_set (h w (List.mem_cons_self ..)), ih us fun z hz => h z (List.mem_cons_of_mem _ hz)]
  exact key vs vs fun _ h => h
def wipeG (G : List (Option SF)) : List Nat → List (Option SF)
  | [] => G
  | v :: vs => (wipeG G vs).set v none
theorem wipeG_length (G : List (Option SF)) : ∀ vs : List Nat, (wipeG G vs).length = G.length
  | [] => rfl
  | v :: vs => by unfold wipeG; rw [List.length_set, wipeG_length G vs]
section
variable {α β γ : Type} {W W' : Wd} {K : PySem.W.Frag} {ta tb tc : TE} {t : Ty α} {u : Ty β} {x : α} {y : β} {tt uu : TT} {ar : TA} {fs : List SF} {ts us : TS} {D : Ends} {σ σ' : L2.St} {H H' : Hp} {i : Nat}
theorem Ok.none {j : Nat} (o : Ok W σ H) : Ok { W with G := W.G.set j Option.none } (σ.set j Option.none) H :=
  ⟨o.nod, o.own, o.at_, o.ms, o.al, o.bt, by show (σ.set j Option.none).length = (W.G.set j Option.none).length; rw [List.length_set, List.length_set]; exact o.len, o.facts, fun k g q => by
    have q : (W.G.set j Option.none)[k]? = some (some g) := q
    by_cases e : j = k
    · subst e
      by_cases l : j < W.G.length
      · rw [List.getElem?_set, if_pos rfl, if_pos l] at q; cases q
      · rw [List.getElem?_set, if_pos rfl, if_neg l] at q; cases q
    · rw [List.getElem?_set, if_neg e] at q
      obtain ⟨w, h1, h2⟩ := o.slots k g q
      exact ⟨w, by rw [List.getElem?_set, if_neg e]; exact h1, h2⟩⟩
theorem Ok.wipe : ∀ {vs : List Nat}, Ok W σ H → Ok { W with G := wipeG W.G vs } (L2.wipe σ vs) H
  | [], o => o
  | v :: vs, o => Ok.none (W := { W with G := wipeG W.G vs }) (Ok.wipe (vs := vs) o)
/-- the same world, other slots: what was known of the slots stays -/
theorem Ok.swap {G' : List (Option SF)} (o : Ok W σ H) (o' : Ok { W with G := G' } σ' H') (up : Same (hid W.S H) (hid W.S H')) : Ok W σ H' :=
  ⟨o.nod, o.own, o'.at_, o.ms, o'.al, o'.bt, o.len, o'.facts, fun i f q => by
    obtain ⟨v, h1, h2⟩ := o.slots i f q
    exact ⟨v, h1, f.mono up h2⟩⟩
/-- all that is to be read in H1 -/
def ffS (G : Hp) : FF := ⟨fun H => Same G H, fun e h => h.trans e⟩
/-- a thing is read only from now on -/
theorem Ok.drop {r : RS} {N S : List Addr} {L : List RS} {H0 : Hp} {M : List Addr} {F : List FF} {G : List (Option SF)} (o : Ok ⟨H0, M, N ++ S, r :: L, F, G⟩ σ H) (hS : ∀ a, a ∈ fps L → a ∈ S) (hM : ∀ a ∈ M, a ∈ S) : Ok ⟨H0, M, S, L, F, G⟩ σ H := by
  have up : Same (hid (N ++ S) H) (hid S H) := hid_less fun a h => List.mem_append_right _ h
  have nd : (fps ([r] ++ L)).Nodup := o.nod
  exact ⟨(nodup_app.mp nd).2.1, fun a m => ⟨hS a m, (o.own a (by obtain ⟨q, m1, m2⟩ := of_fps m; exact mem_fps (List.mem_cons_of_mem _ m1) m2)).2⟩, fun q m => q.mono up (o.at_ q (List.mem_cons_of_mem _ m)), hM, fun a m => o.al a (List.mem_append_right _ m), o.bt, o.len, fun f m => f.mono up (o.facts f m), fun j f q => by
      obtain ⟨v, h1, h2⟩ := o.slots j f q
      exact ⟨v, h1, f.mono up h2⟩⟩
theorem ok_sub {W : Wd} (o : Ok W σ H) : ∀ a, a ∈ fps W.L → a ∈ W.S := fun a m => (o.own a m).1
theorem filterMap_snoc (p : α → Bool) (g : α → β) (xs : List α) (x : α) : ((xs ++ [x]).filter p).map g = (xs.filter p).map g ++ (if p x = true then [g x] else []) := by
  rw [List.filter_append, List.map_append]
  congr 1
  cases h : p x <;> simp [h]
theorem take_snoc {xs : List α} {k : Nat} {x : α} (h : xs[k]? = some x) : xs.take (k + 1) = xs.take k ++ [x] := by
  rw [List.take_add_one, h]; rfl
/-- the world of a comprehension's element -/
def Wd.el (W : Wd) (D : Addr) (φ : CF) (F : List FF) (vs : List Nat) : Wd := ⟨W.H0, W.M, D :: W.S, cell D φ :: W.L, F, wipeG W.G vs⟩
/-- [te for x in ta if tt] -/
theorem ev_lc {xs : List α} {p : α → Bool} {g : α → β} {vs : List Nat} (h : Ev W ta (tLs K t) xs) (hi : i ∈ vs) (hl : xs.length < sizeLine)
    (ht : ∀ D φ F x, (∀ f ∈ W.F, f ∈ F) → x ∈ xs → Et ((W.el D φ F vs).at i (t.is x)) tt (p x))
    (he : ∀ D φ F x, (∀ f ∈ W.F, f ∈ F) → x ∈ xs → p x = true → Ev ((W.el D φ F vs).at i (t.is x)) tb u (g x)) : Ev W (tLc (iList K ta) (gName i) tt tb vs) (tLs K u) ((xs.filter p).map g) := fun σ H o Q q => by
  refine h σ H o _ fun v H1 g1 r => ?_
  obtain ⟨a, ws, rfl, hq, al⟩ := r
  refine ⟨a, rfl, ⟨ws, SqL.of (hid_sub _ _ hq)⟩, fun D nD => ?_⟩
  have hlen := al.length
  let Wk : Nat → Wd := fun k => ⟨W.H0, W.M, D :: W.S, cell D (cLs u (((xs.take k).filter p).map g)) :: W.L, ffL K t a ws xs :: ffS (hid W.S H1) :: W.F, W.G⟩
  have start : Ok (Wk 0) σ (upd H1 D (.lst [])) := by
    obtain ⟨o1, up⟩ := g1.ok.cell (ψ := cLs u ([] : List β)) nD ⟨[], rfl, trivial⟩
    exact Ok.know (Ok.know o1 (f := ffS (hid W.S H1)) up) (f := ffL K t a ws xs) ⟨SqL.of (up _ _ hq), All2.mono (fun _ _ => t.mono up) al⟩
  have len : ∀ k, (((xs.take k).filter p).map g).length ≤ xs.length := fun k => by
    rw [List.length_map]
    exact Nat.le_trans (List.length_filter_le ..) (by rw [List.length_take]; omega)
  refine lc_list (K := K) (a := a) (xs := ws) (fun k H' => Ok (Wk k) σ H') start (fun k H' _ o' => hid_sub.seq (o'.facts (ffL K t a ws xs) (List.mem_cons_self ..)).1) ?_ ?_
  · rintro k w H' hw o'
    obtain ⟨_, al'⟩ := o'.facts (ffL K t a ws xs) (List.mem_cons_self ..)
    obtain ⟨x, hx, rx⟩ := al'.getV hw
    have xm := List.mem_of_getElem? hx
    refine ⟨by rw [wipe_set hi, wipe_twice], ?_⟩
    have oe : Ok (((W.el D (cLs u (((xs.take k).filter p).map g)) (ffL K t a ws xs :: ffS (hid W.S H1) :: W.F) vs).at i (t.is x))) ((wipe σ vs).set i (some w)) H' := (Ok.wipe (vs := vs) o').put rx
    have sub : ∀ f ∈ W.F, f ∈ ffL K t a ws xs :: ffS (hid W.S H1) :: W.F := fun f m => List.mem_cons_of_mem _ (List.mem_cons_of_mem _ m)
    refine ht D _ _ x sub xm _ _ oe _ fun H2 g2 => ?_
    cases hp : p x with
    | false =>
      refine iteF ?_
      have o2 : Ok (Wk k) σ H2 := Ok.swap (W := Wk k) o' (Ok.swap (W := { Wk k with G := wipeG W.G vs }) (Ok.wipe (vs := vs) o') g2.ok g2.up) g2.up
      show Ok (Wk (k + 1)) σ H2
      have e : ((xs.take (k + 1)).filter p).map g = ((xs.take k).filter p).map g := by rw [take_snoc hx, filterMap_snoc, hp]; simp
      show Ok ⟨W.H0, W.M, D :: W.S, cell D (cLs u (((xs.take (k + 1)).filter p).map g)) :: W.L, ffL K t a ws xs :: ffS (hid W.S H1) :: W.F, W.G⟩ σ H2
      rw [e]
      exact o2
    | true =>
      refine iteT ?_
      refine he D _ _ x sub xm hp _ _ g2.ok _ fun y H3 g3 ry => ?_
      have g23 := g2.trans g3
      have o3 : Ok (Wk k) σ H3 := Ok.swap (W := Wk k) o' (Ok.swap (W := { Wk k with G := wipeG W.G vs }) (Ok.wipe (vs := vs) o') g23.ok g23.up) g23.up
      obtain ⟨ob, hob, us, rfl, hus⟩ := o3.at_ _ (List.mem_cons_self ..)
      refine ⟨us, hob, ?_, ?_⟩
      · rw [hus.length]
        exact Nat.lt_of_le_of_lt (len k) hl
      · have e : ((xs.take (k + 1)).filter p).map g = ((xs.take k).filter p).map g ++ [g x] := by rw [take_snoc hx, filterMap_snoc, hp]; simp
        have := (o3.write (ψ := cLs u (((xs.take (k + 1)).filter p).map g)) (o := .lst (us ++ [y])) rfl ⟨_, rfl, by rw [e]; exact hus.app (ws := [y]) (ys := [g x]) ⟨ry, trivial⟩⟩).ok
        exact this
  · intro H' o'
    have e : xs.take ws.length = xs := by rw [hlen, List.take_length]
    have o2 : Ok ⟨W.H0, W.M, D :: W.S, cell D (cLs u ((xs.filter p).map g)) :: W.L, ffL K t a ws xs :: ffS (hid W.S H1) :: W.F, W.G⟩ σ H' := by
      have : Ok (Wk ws.length) σ H' := o'
      have e2 : Wk ws.length = ⟨W.H0, W.M, D :: W.S, cell D (cLs u ((xs.filter p).map g)) :: W.L, ffL K t a ws xs :: ffS (hid W.S H1) :: W.F, W.G⟩ := by
        show (⟨W.H0, W.M, D :: W.S, cell D (cLs u (((xs.take ws.length).filter p).map g)) :: W.L, ffL K t a ws xs :: ffS (hid W.S H1) :: W.F, W.G⟩ : Wd) = _
        rw [e]
      rw [e2] at this
      exact this
    obtain ⟨ob, hob, us, rfl, hus⟩ := o2.at_ _ (List.mem_cons_self ..)
    have up := o2.facts (ffS (hid W.S H1)) (List.mem_cons_of_mem _ (List.mem_cons_self ..))
    have less : Same (hid (D :: W.S) H') (hid W.S H') := hid_less fun a h => List.mem_cons_of_mem _ h
    have o3 := Ok.drop (N := [D]) o2 (ok_sub g1.ok) g1.ok.ms
    have o4 : Ok W σ H' := ⟨o3.nod, o3.own, o3.at_, o3.ms, o3.al, o3.bt, o3.len, fun f m => o3.facts f (List.mem_cons_of_mem _ (List.mem_cons_of_mem _ m)), o3.slots⟩
    refine q _ _ (g1.trans ⟨o4, up.trans less⟩) ⟨D, us, rfl, ?_, All2.mono (fun _ _ => u.mono less) hus⟩
    rw [hid_of (g1.ok.off nD)]
    exact hob
theorem et_yes : Et W tYes true := fun σ H o Q q => q H (Go1.refl o)
theorem filter_yes (xs : List α) : xs.filter (fun _ => true) = xs := List.filter_eq_self.mpr fun _ _ => rfl
/-- [te for x in ta] -/
theorem ev_lc0 {xs : List α} {g : α → β} {vs : List Nat} (h : Ev W ta (tLs K t) xs) (hi : i ∈ vs) (hl : xs.length < sizeLine)
    (he : ∀ D φ F x, (∀ f ∈ W.F, f ∈ F) → x ∈ xs → Ev ((W.el D φ F vs).at i (t.is x)) tb u (g x)) : Ev W (tLc (iList K ta) (gName i) tYes tb vs) (tLs K u) (xs.map g) :=
  ev_is (ev_lc (p := fun _ => true) h hi hl (fun _ _ _ _ _ _ => et_yes) fun D φ F x hF hx _ => he D φ F x hF hx) (by rw [filter_yes])
/-- a display of a list -/
theorem ev_nil : Ev W (tLst tNil) (tLs K t) [] := fun σ H o Q q => ⟨Nat.zero_le _, fun p np => q _ _ (o.new np) ⟨p, [], rfl, (by rw [hid_of (o.off np)]; exact upd_same), trivial⟩⟩
/-- arguments that are all of one kind -/
def El (W : Wd) (ar : TA) (t : Ty α) (xs : List α) : Prop := ∀ σ H, Ok W σ H → ∀ Q : List V → Hp → Prop, (∀ vs H', Go1 W σ H H' → All2 (t.r (hid W.S H')) vs xs → Q vs H') → ar σ H Q
theorem el_nil : El W tNil t [] := fun σ H o Q q => q [] H (Go1.refl o) trivial
theorem el_cons {xs : List α} (ha : Ev W ta t x) (hr : El W ar t xs) : El W (tCons ta ar) t (x :: xs) := fun σ H o Q q =>
  ha σ H o _ fun v H1 g1 r1 => hr σ H1 g1.ok _ fun vs H2 g2 r2 => q (v :: vs) H2 (g1.trans g2) ⟨t.mono g2.up r1, r2⟩
theorem ev_lst {xs : List α} (h : El W ar t xs) (hl : xs.length ≤ sizeLine := by decide) : Ev W (tLst ar) (tLs K t) xs := fun σ H o Q q =>
  h σ H o _ fun vs H1 g1 r1 => ⟨by rw [r1.length]; exact hl, fun p np => q _ _ (g1.trans (g1.ok.new np)) ⟨p, vs, rfl, (by rw [hid_of (g1.ok.off np)]; exact upd_same), All2.mono (fun _ _ => t.mono (g1.ok.new np).up) r1⟩⟩
/-- out = [..], a list that is changed later -/
theorem go_new {xs : List α} (h : El W ar t xs) (hl : xs.length ≤ sizeLine := by decide) (k : ∀ p, Go ⟨W.H0, W.M, p :: W.S, cell p (cLs t xs) :: W.L, W.F, W.G.set i (some (tRf.is p))⟩ us D) : Go W (tSeq (tAsg (tLst ar) (gName i)) us) D := fun σ H o =>
  h σ H o _ fun vs H1 g1 r1 => ⟨by rw [r1.length]; exact hl, fun p np => k p _ _ (Ok.put (i := i) (f := tRf.is p) (g1.ok.cell (ψ := cLs t xs) np ⟨vs, rfl, r1⟩).1 rfl)⟩
theorem ok_new {p : Addr} {σ : L2.St} {H : Hp} (o : Ok W σ H) (np : H p = none) : Ok ⟨W.H0, W.M, p :: W.S, cell p (cLs t []) :: W.L, W.F, W.G.set i (some (tRf.is p))⟩ (σ.set i (some (.ref p))) (upd H p (.lst [])) :=
  Ok.put (i := i) (f := tRf.is p) (o.cell (ψ := cLs t []) np ⟨[], rfl, trivial⟩).1 rfl
/-- xs.append(e) -/
theorem go_app {p : Addr} {xs : List α} {R : List RS} (hp : W.G[i]? = some (some (tRf.is p))) (hL : W.L.Perm (cell p (cLs t xs) :: R)) (ha : Ev W ta t x) (hl : xs.length < sizeLine) (k : Go { W with L := cell p (cLs t (xs ++ [x])) :: R } us D) :
    Go W (tSeq (tDrop (tBM K "list" rAppend (tVar i) (tCons ta tNil))) us) D := fun σ H o => by
  obtain ⟨v, h1, h2⟩ := o.slots i _ hp
  obtain rfl : v = .ref p := h2
  have mem : cell p (cLs t xs) ∈ W.L := hL.mem_iff.mpr (List.mem_cons_self ..)
  obtain ⟨ob, hob, vs, rfl, _⟩ := o.at_ _ mem
  refine ⟨.ref p, h1, .inl ⟨rfl, vs, SqL.of hob⟩, ?_⟩
  refine ha σ H o _ fun y H1 g1 ry => ?_
  obtain ⟨ob, hob, ws, rfl, al⟩ := g1.ok.at_ _ mem
  exact ⟨p, ws, y, rfl, rfl, hob, by rw [al.length]; exact hl, k _ _ ((g1.ok.perm hL).write (ψ := cLs t (xs ++ [x])) rfl ⟨_, rfl, al.app (ws := [y]) (ys := [x]) ⟨ry, trivial⟩⟩).ok⟩
theorem go_app1 {p : Addr} {xs : List α} {R : List RS} (hp : W.G[i]? = some (some (tRf.is p))) (hL : W.L.Perm (cell p (cLs t xs) :: R)) (ha : Ev W ta t x) (hl : xs.length < sizeLine) (k : ∀ σ H, Ok { W with L := cell p (cLs t (xs ++ [x])) :: R } σ H → D.nx σ H) :
    Go W (tDrop (tBM K "list" rAppend (tVar i) (tCons ta tNil))) D := go_app (us := fun D σ H => D.nx σ H) hp hL ha hl k
theorem set_self {σ : L2.St} {v : V} (h1 : σ[i]? = some (some v)) : σ.set i (some v) = σ := by
  have l : i < σ.length := (List.getElem?_eq_some_iff.mp h1).1
  apply List.ext_getElem?
  intro j
  rw [List.getElem?_set]
  by_cases e : i = j
  · subst e; rw [if_pos rfl, if_pos l, h1]
  · rw [if_neg e]
/-- the list is done: it is read only -/
theorem go_frz {p : Addr} {xs : List α} {S : List Addr} {L : List RS} {H0 : Hp} {M : List Addr} {F : List FF} {G : List (Option SF)} (hp : G[i]? = some (some (tRf.is p))) (hM : ∀ a ∈ M, a ∈ S) (hn : p ∉ S) (hS : ∀ a, a ∈ fps L → a ∈ S)
    (k : Go ⟨H0, M, S, L, F, G.set i (some ((tLs K t).is xs))⟩ ts D) : Go ⟨H0, M, p :: S, cell p (cLs t xs) :: L, F, G⟩ ts D := fun σ H o => by
  obtain ⟨v, h1, h2⟩ := o.slots i _ hp
  obtain rfl : v = .ref p := h2
  obtain ⟨ob, hob, vs, rfl, al⟩ := o.at_ _ (List.mem_cons_self ..)
  have o2 := Ok.drop (N := [p]) o hS hM
  have up : Same (hid (p :: S) H) (hid S H) := hid_less fun a h => List.mem_cons_of_mem _ h
  have o3 := Ok.put (i := i) (v := .ref p) (f := (tLs K t).is xs) o2 ⟨p, vs, rfl, (by rw [hid_of hn]; exact hob), All2.mono (fun _ _ => t.mono up) al⟩
  rw [set_self h1] at o3
  exact k σ H o3
end
end Cs
set_option maxHeartbeats 4000000
namespace Cs
open PySem PySem.Spec PyProof.Rows L2
/-! ### the deck, its list told -/
def DeckA (K : PySem.W.Frag) (H : Hp) (d l : Addr) (ns : List Int) : Prop := ∃ b c e : Int, H d = some (DeckO l b c e) ∧ SqL K H l (ns.map V.int) ∧ l ≠ d ∧ 0 ≤ b
theorem deckA_of {K : PySem.W.Frag} {H H1 : Hp} {d l : Addr} {ns : List Int} {b c e : Int} (hl : SqL K H l (ns.map V.int)) (ne : l ≠ d) (hb : But d H H1) (h : H1 d = some (DeckO l b c e)) (b0 : 0 ≤ b) : DeckA K H1 d l ns := ⟨b, c, e, h, hb.seq ne hl, ne, b0⟩
def spDeckA (K : PySem.W.Frag) : Sp := fun vs H Q _ => ∃ (a : Addr) (ns : List Int), vs = [.ref a] ∧ SqL K H a (ns.map V.int) ∧ ∀ d l H', Same H H' → H d = none → DeckA K H' d l ns → Q (.ref d) H'
def spDrawA (K : PySem.W.Frag) : Sp := fun vs H Q _ => ∃ (d : Addr) (m : Int) (l : Addr) (ns : List Int), vs = [.ref d, .int m] ∧ 0 < m ∧ m.natAbs < 2 ^ 8000 ∧ DeckA K H d l ns ∧ ∀ v H', 0 ≤ v → v < m → But d H H' → DeckA K H' d l ns → Q (.int v) H'
/-! ### equality of data -/
structure Eqt (K : PySem.W.Frag) {α : Type} (t : Ty α) where
  d : α → PyData
  n : Nat
  dp : ∀ {H : Hp} {v : V} {x : α}, t.r H v x → Dp K H v (d x)
  dep : ∀ x, (d x).depth ≤ n
  inj : ∀ x y, PyData.eqv (d x) (d y) = true ↔ x = y
section
variable {K : PySem.W.Frag} {α : Type} {t : Ty α}
theorem Eqt.dec [DecidableEq α] (q : Eqt K t) (x y : α) : PyData.eqv (q.d x) (q.d y) = decide (x = y) := by
  rw [Bool.eq_iff_iff, q.inj, decide_eq_true_iff]
theorem Eqt.shape (q : Eqt K t) (hn : q.n ≤ 64) {x : α} (l : (q.d x).canLay0 = true) : SeqAt.shaped (q.d x) = true := by
  unfold SeqAt.shaped
  rw [l, decide_eq_true (Nat.le_trans (q.dep x) hn)]
  rfl
def eqInt : Eqt K tInt := ⟨.int, 0, fun h => by rw [show _ = V.int _ from h]; exact .int _, fun _ => by simp [PyData.depth], fun x y => by simp [PyData.eqv]⟩
def eqSt : Eqt K tSt := ⟨.str, 0, fun h => by rw [show _ = V.str _ from h]; exact .str _, fun _ => by simp [PyData.depth], fun x y => by simp [PyData.eqv]⟩
theorem rat_eq {x y : Rat} (h1 : x.num = y.num) (h2 : (x.den : Int) = y.den) : x = y := by
  have : x.den = y.den := by omega
  exact Rat.ext h1 this
def eqFr : Eqt K (tFr K) := ⟨fun r => .tuple [.int r.num, .int r.den], 1, fun ⟨p, e, h⟩ => by rw [e]; exact .tup h (.cons (.int _) (.cons (.int _) .nil)), fun _ => by simp [PyData.depth, PyData.depthAll], fun x y => by
  simp only [PyData.eqv, PyData.eqvAll, Bool.and_true, Bool.and_eq_true, beq_iff_eq]
  exact ⟨fun ⟨a, b⟩ => rat_eq a b, fun e => by rw [e]; exact ⟨rfl, rfl⟩⟩⟩
theorem dpAll_of {H : Hp} (q : Eqt K t) : ∀ {vs : List V} {xs : List α}, All2 (t.r H) vs xs → DpAll K H vs (xs.map q.d)
  | [], [], _ => .nil
  | _ :: _, _ :: _, ⟨a, b⟩ => .cons (q.dp a) (dpAll_of q b)
  | [], _ :: _, h => h.elim
  | _ :: _, [], h => h.elim
theorem depAll_of (q : Eqt K t) : ∀ xs : List α, PyData.depthAll (xs.map q.d) ≤ q.n
  | [] => by simp [PyData.depthAll]
  | x :: xs => by
    have := depAll_of q xs
    have := q.dep x
    simp only [List.map_cons, PyData.depthAll]
    omega
theorem eqvAll_of (q : Eqt K t) : ∀ xs ys : List α, PyData.eqvAll (xs.map q.d) (ys.map q.d) = true ↔ xs = ys
  | [], [] => by simp [PyData.eqvAll]
  | [], _ :: _ => by simp [PyData.eqvAll]
  | _ :: _, [] => by simp [PyData.eqvAll]
  | x :: xs, y :: ys => by
    simp only [List.map_cons, PyData.eqvAll, Bool.and_eq_true, q.inj, eqvAll_of q xs ys, List.cons.injEq]
def eqLs (q : Eqt K t) : Eqt K (tLs K t) := ⟨fun xs => .list (xs.map q.d), q.n + 1, fun ⟨p, vs, e, h, a⟩ => by rw [e]; exact .lst (SqL.of h) (dpAll_of q a), fun xs => by
  have := depAll_of q xs
  simp only [PyData.depth]
  omega, fun x y => by
  simp only [PyData.eqv]
  exact eqvAll_of q x y⟩
theorem layAll_of (q : Eqt K t) : ∀ xs : List α, (∀ x ∈ xs, (q.d x).canLay0 = true) → PyData.canLayAll0 (xs.map q.d) = true
  | [], _ => by simp [PyData.canLayAll0]
  | x :: xs, h => by
    simp only [List.map_cons, PyData.canLayAll0, Bool.and_eq_true]
    exact ⟨h x (List.mem_cons_self ..), layAll_of q xs fun y m => h y (List.mem_cons_of_mem _ m)⟩
theorem lay_ls (q : Eqt K t) {xs : List α} (h : ∀ x ∈ xs, (q.d x).canLay0 = true) : ((eqLs q).d xs).canLay0 = true := by
  show (PyData.list (xs.map q.d)).canLay0 = true
  simp only [PyData.canLay0]
  exact layAll_of q xs h
theorem lay_int (x : Int) : ((eqInt (K := K)).d x).canLay0 = true := by show (PyData.int x).canLay0 = true; simp [PyData.canLay0]
theorem lay_fr (x : Rat) : ((eqFr (K := K)).d x).canLay0 = true := by show (PyData.tuple [.int x.num, .int x.den]).canLay0 = true; simp [PyData.canLay0, PyData.canLayAll0]
end
theorem dp_mono {K : PySem.W.Frag} {H H' : Hp} (e : Same H H') {v : V} {d : PyData} (h : Dp K H v d) : Dp K H' v d := by
  have key : (∀ {v : V} {d : PyData}, Dp K H v d → Dp K H' v d) := by
    intro v d h
    exact Dp.rec (motive_1 := fun v d _ => Dp K H' v d) (motive_2 := fun vs ds _ => DpAll K H' vs ds) .non (fun b => .bl b) (fun i => .int i) (fun x => .str x) (fun s _ ih => .lst (e.seq s) ih) (fun s _ ih => .tup (sqT_mono e s) ih) .nil (fun _ _ a b => .cons a b) h
  exact key h
/-! ### more kinds -/
/-- an instance of the class at C with such attributes, read only -/
def FldAt (H : Hp) (fs : List (Str × V)) (flds : List (Str × SF)) : Prop := ∀ n f, (n, f) ∈ flds → ∃ u, fs.lookup n = some u ∧ f.p H u
def tOb (C : Addr) {α : Type} (flds : α → List (Str × SF)) : Ty α := ⟨fun H v x => ∃ a dx fs, v = .ref a ∧ H a = some (.ins C dx fs) ∧ FldAt H fs (flds x), fun e ⟨a, dx, fs, h, g, k⟩ => ⟨a, dx, fs, h, e _ _ g, fun n f m => by
  obtain ⟨u, h1, h2⟩ := k n f m
  exact ⟨u, h1, f.mono e h2⟩⟩⟩
/-- None or something that is not -/
def tOpt {α : Type} (t : Ty α) : Ty (Option α) := ⟨fun H v x => match x with
  | none => v = .non
  | some y => t.r H v y ∧ v ≠ .non, fun {H H' v x} e h => by
  cases x with
  | none => exact h
  | some y => exact ⟨t.mono e h.1, h.2⟩⟩
/-- a dict that is used as a set of names -/
def cKeys (ks : List Str) : CF := ⟨fun _ o => ∃ kvs, o = .dK kvs ∧ kvs.length ≤ ks.length ∧ ∀ z : Str, (valV kvs (Sum.inr z)).isSome = decide (z ∈ ks), fun _ h => h⟩
def cDeck (K : PySem.W.Frag) (l : Addr) (ns : List Int) : CF := ⟨fun F o => ∃ b c e, o = DeckO l b c e ∧ SqL K F l (ns.map V.int) ∧ 0 ≤ b, fun e ⟨b, c, f, h, g, k⟩ => ⟨b, c, f, h, e.seq g, k⟩⟩
/-! ### tests of several answers -/
def Etx (W : Wd) (tt : TT) (P : Bool → Prop) : Prop := ∀ σ H, Ok W σ H → ∀ Q : Bool → Hp → Prop, (∀ b H', P b → Go1 W σ H H' → Q b H') → tt σ H Q
section
variable {α β γ : Type} {W : Wd} {K : PySem.W.Frag} {ta tb tc : TE} {t : Ty α} {u : Ty β} {x x' : α} {y : β} {tt uu : TT} {ar : TA} {fs : List SF} {i j : Int} {E : XK} {ts us : TS} {D : Ends} {k : Nat} {z z' : Str}
theorem Et.toX {b : Bool} {P : Bool → Prop} (h : Et W tt b) (p : P b) : Etx W tt P := fun σ H o Q q => h σ H o Q fun H' g => q b H' p g
theorem Etx.any {P : Bool → Prop} (h : Etx W tt P) : Etx W tt fun _ => True := fun σ H o Q q => h σ H o Q fun b H' _ g => q b H' trivial g
theorem etx_and {P P' : Bool → Prop} (h : Etx W tt P) (g : Etx W uu P') : Etx W (tAnd tt uu) (fun b => if b = true then P true ∧ P' true else P false ∨ P' false) := fun σ H o Q q => h σ H o _ fun b H1 p g1 => by
  cases b with
  | true =>
    show uu σ H1 Q
    refine g σ H1 g1.ok Q fun c H2 p2 g2 => q c H2 ?_ (g1.trans g2)
    cases c with
    | true => exact ⟨p, p2⟩
    | false => exact .inr p2
  | false => exact q false H1 (.inl p) g1
theorem etx_eqI {P : Int → Prop} (ha : Evx W ta tInt P) (hb : Ev W tb tInt j) : Etx W (tTest (tOp rEq ta tb)) fun b => ∃ i, P i ∧ b = decide (i = j) := fun σ H o Q q =>
  ha σ H o _ fun v i H1 p g1 r1 => hb σ H1 g1.ok _ fun v2 H2 g2 r2 => by
    obtain rfl : v = .int i := r1
    obtain rfl : v2 = .int j := r2
    exact ⟨rfl, _, rfl, q _ H2 ⟨i, p, by simp⟩ (g1.trans g2)⟩
theorem etx_cmp {P : Int → Prop} {g : Int → Int → Bool} (ha : Evx W ta tInt P) (hb : Ev W tb tInt j) : Etx W (tTest (tOp (rI0 fun i j => .bl (g i j)) ta tb)) fun b => ∃ i, P i ∧ b = g i j := fun σ H o Q q =>
  ha σ H o _ fun v i H1 p g1 r1 => hb σ H1 g1.ok _ fun v2 H2 g2 r2 => ⟨i, j, r1, r2, _, rfl, q _ H2 ⟨i, p, rfl⟩ (g1.trans g2)⟩
theorem evx_eqI {P : Int → Prop} (ha : Evx W ta tInt P) (hb : Ev W tb tInt j) : Evx W (tOp rEq ta tb) tBl fun b => ∃ i, P i ∧ b = decide (i = j) := fun σ H o Q q =>
  ha σ H o _ fun v i H1 p g1 r1 => hb σ H1 g1.ok _ fun v2 H2 g2 r2 => by
    obtain rfl : v = .int i := r1
    obtain rfl : v2 = .int j := r2
    exact ⟨rfl, q _ (decide (i = j)) H2 ⟨i, p, rfl⟩ (g1.trans g2) (by show V.bl _ = V.bl _; simp)⟩
theorem evx_add {P P' : Int → Prop} (ha : Evx W ta tInt P) (hb : Evx W tb tInt P') : Evx W (tOp (rI0 fun i j => .int (i + j)) ta tb) tInt (fun s => ∃ i j, P i ∧ P' j ∧ s = i + j) := fun σ H o Q q =>
  ha σ H o _ fun v i H1 p g1 r1 => hb σ H1 g1.ok _ fun v2 j H2 p2 g2 r2 => ⟨i, j, r1, r2, q _ _ H2 ⟨i, j, p, p2, rfl⟩ (g1.trans g2) rfl⟩
theorem Evx.imp {P P' : α → Prop} (h : Evx W ta t P) (e : ∀ x, P x → P' x) : Evx W ta t P' := fun σ H o Q q => h σ H o Q fun v x H' p g r => q v x H' (e x p) g r
theorem Etx.imp {P P' : Bool → Prop} (h : Etx W tt P) (e : ∀ x, P x → P' x) : Etx W tt P' := fun σ H o Q q => h σ H o Q fun b H' p g => q b H' (e b p) g
/-- int(a bool) -/
theorem evx_intB {P : Bool → Prop} (h : Evx W ta tBl P) : Evx W (tCB (fun xs H Q => (∃ i, xs = [.int i] ∧ Q (.int i) H) ∨ ∃ k, xs = [.bl k] ∧ Q (.int (if k then 1 else 0)) H) (tCons ta tNil)) tInt fun i => ∃ b, P b ∧ i = if b then 1 else 0 := fun σ H o Q q =>
  h σ H o _ fun v b H1 p g1 e => .inr ⟨b, by rw [show v = .bl b from e], q _ _ H1 ⟨b, p, rfl⟩ g1 rfl⟩
theorem ev_intB {b : Bool} (h : Ev W ta tBl b) : Ev W (tCB (fun xs H Q => (∃ i, xs = [.int i] ∧ Q (.int i) H) ∨ ∃ k, xs = [.bl k] ∧ Q (.int (if k then 1 else 0)) H) (tCons ta tNil)) tInt (if b then 1 else 0) := fun σ H o Q q =>
  h σ H o _ fun v H1 g1 e => .inr ⟨b, by rw [show v = .bl b from e], q _ H1 g1 rfl⟩
/-! ### comparisons -/
theorem ev_eqI (ha : Ev W ta tInt i) (hb : Ev W tb tInt j) : Ev W (tOp rEq ta tb) tBl (decide (i = j)) := fun σ H o Q q =>
  ha σ H o _ fun v H1 g1 r1 => hb σ H1 g1.ok _ fun v2 H2 g2 r2 => by
    obtain rfl : v = .int i := r1
    obtain rfl : v2 = .int j := r2
    exact ⟨rfl, q _ H2 (g1.trans g2) (by show V.bl _ = V.bl _; simp)⟩
theorem ev_neI (ha : Ev W ta tInt i) (hb : Ev W tb tInt j) : Ev W (tOp rNe ta tb) tBl (!decide (i = j)) := fun σ H o Q q =>
  ha σ H o _ fun v H1 g1 r1 => hb σ H1 g1.ok _ fun v2 H2 g2 r2 => by
    obtain rfl : v = .int i := r1
    obtain rfl : v2 = .int j := r2
    exact ⟨rfl, q _ H2 (g1.trans g2) (by show V.bl _ = V.bl _; simp)⟩
theorem ev_eqS (ha : Ev W ta tSt z) (hb : Ev W tb tSt z') : Ev W (tOp rEq ta tb) tBl (decide (z = z')) := fun σ H o Q q =>
  ha σ H o _ fun v H1 g1 r1 => hb σ H1 g1.ok _ fun v2 H2 g2 r2 => by
    obtain rfl : v = .str z := r1
    obtain rfl : v2 = .str z' := r2
    exact ⟨rfl, q _ H2 (g1.trans g2) (by show V.bl _ = V.bl _; simp)⟩
theorem ev_neS (ha : Ev W ta tSt z) (hb : Ev W tb tSt z') : Ev W (tOp rNe ta tb) tBl (!decide (z = z')) := fun σ H o Q q =>
  ha σ H o _ fun v H1 g1 r1 => hb σ H1 g1.ok _ fun v2 H2 g2 r2 => by
    obtain rfl : v = .str z := r1
    obtain rfl : v2 = .str z' := r2
    exact ⟨rfl, q _ H2 (g1.trans g2) (by show V.bl _ = V.bl _; simp)⟩
theorem ev_eqD [DecidableEq α] (e : Eqt K t) (ha : Ev W ta t x) (hb : Ev W tb t x') (l1 : (e.d x).canLay0 = true) (l2 : (e.d x').canLay0 = true) (hn : e.n ≤ 64 := by decide) : Ev W (tOp (rEqD K) ta tb) tBl (decide (x = x')) := fun σ H o Q q =>
  ha σ H o _ fun v H1 g1 r1 => hb σ H1 g1.ok _ fun v2 H2 g2 r2 => ⟨e.d x, e.d x', dp_mono hid_sub (e.dp (t.mono g2.up r1)), dp_mono hid_sub (e.dp r2), e.shape hn l1, e.shape hn l2, by rw [e.dec]; exact q _ H2 (g1.trans g2) rfl⟩
theorem ev_neD [DecidableEq α] (e : Eqt K t) (ha : Ev W ta t x) (hb : Ev W tb t x') (l1 : (e.d x).canLay0 = true) (l2 : (e.d x').canLay0 = true) (hn : e.n ≤ 64 := by decide) : Ev W (tOp (rNeD K) ta tb) tBl (!decide (x = x')) := fun σ H o Q q =>
  ha σ H o _ fun v H1 g1 r1 => hb σ H1 g1.ok _ fun v2 H2 g2 r2 => ⟨e.d x, e.d x', dp_mono hid_sub (e.dp (t.mono g2.up r1)), dp_mono hid_sub (e.dp r2), e.shape hn l1, e.shape hn l2, by rw [e.dec]; exact q _ H2 (g1.trans g2) rfl⟩
/-- e is None -/
theorem et_isN {x : Option α} (h : Ev W ta (tOpt t) x) : Et W (tTest (tOp (fun x y H Q => y = .non ∧ Q (.bl (decide (x = .non))) H) ta (tC .non))) x.isNone := fun σ H o Q q =>
  h σ H o _ fun v H1 g1 r1 => ⟨rfl, _, rfl, by
    have : decide (v = .non) = x.isNone := by
      cases x with
      | none => rw [show v = .non from r1]; rfl
      | some y => exact decide_eq_false r1.2
    rw [this]
    exact q H1 g1⟩
theorem ev_some (h : Ev W ta (tOpt t) (some x)) : Ev W ta t x := ev_to h fun _ _ r => r.1
/-- a name among names -/
theorem inV_str {H : Hp} {vs : List V} {xs : List Str} (h : All2 (tSt.r H) vs xs) : inV (.str z) vs = decide (z ∈ xs) := by
  rw [All2.toMap V.str (fun v x e => e) h]
  clear h
  induction xs with
  | nil => rfl
  | cons y ys ih =>
    show (eqV (V.str y) (V.str z) || inV (V.str z) (ys.map V.str)) = _
    rw [ih, Bool.eq_iff_iff, Bool.or_eq_true, decide_eq_true_iff, decide_eq_true_iff, List.mem_cons]
    show (y == z) = true ∨ _ ↔ _
    rw [beq_iff_eq]
    exact ⟨fun h => h.imp (fun e => e.symm) id, fun h => h.imp (fun e => e.symm) id⟩
theorem flat_str {H : Hp} {vs : List V} {xs : List Str} (h : All2 (tSt.r H) vs xs) : vs.all flatV = true := by
  rw [All2.toMap V.str (fun v x e => e) h]
  simp [List.all_map, flatV]
theorem ev_inS {xs : List Str} (ha : Ev W ta tSt z) (hb : Ev W tb (tLs K tSt) xs) : Ev W (tOp (rIn K false) ta tb) tBl (decide (z ∈ xs)) := fun σ H o Q q =>
  ha σ H o _ fun v H1 g1 r1 => hb σ H1 g1.ok _ fun v2 H2 g2 ⟨p, vs, e, s, al⟩ => ⟨p, vs, e, .inl ((SqL.of (hid_sub _ _ s))), by rw [show v = .str z from r1]; rfl, flat_str al, q _ H2 (g1.trans g2) (by rw [show v = .str z from r1]; show V.bl (inV (.str z) vs) = _; rw [inV_str al])⟩
theorem ev_niS {xs : List Str} (ha : Ev W ta tSt z) (hb : Ev W tb (tLs K tSt) xs) : Ev W (tOp (rIn K true) ta tb) tBl (!decide (z ∈ xs)) := fun σ H o Q q =>
  ha σ H o _ fun v H1 g1 r1 => hb σ H1 g1.ok _ fun v2 H2 g2 ⟨p, vs, e, s, al⟩ => ⟨p, vs, e, .inl ((SqL.of (hid_sub _ _ s))), by rw [show v = .str z from r1]; rfl, flat_str al, q _ H2 (g1.trans g2) (by rw [show v = .str z from r1]; show V.bl (!inV (.str z) vs) = _; rw [inV_str al])⟩
/-- a list as a test -/
theorem et_tru {xs : List α} (h : Ev W ta (tLs K t) xs) : Et W (fun σ H Q => ta σ H fun x H' => ∃ k, TruV K x H' k ∧ Q k H') (!xs.isEmpty) := fun σ H o Q q =>
  h σ H o _ fun v H1 g1 ⟨p, vs, e, s, al⟩ => ⟨!xs.isEmpty, by
    rw [e]
    refine .inl ⟨vs, (SqL.of (hid_sub _ _ s)), ?_⟩
    cases vs with
    | nil => cases xs with
      | nil => rfl
      | cons _ _ => exact al.elim
    | cons _ _ => cases xs with
      | nil => exact al.elim
      | cons _ _ => rfl, q H1 g1⟩
/-! ### attributes -/
theorem ev_fld {C : Addr} {flds : α → List (Str × SF)} {n : Str} (m : Nat) (h : Ev W ta (tOb C flds) x) (cl : Cls K C) (na : NoAttr K C n) (e : (flds x)[m]? = some (n, u.is y) := by rfl) : Ev W (tFld K ta n) u y := fun σ H o Q q =>
  h σ H o _ fun v H1 g1 ⟨a, dx, fs, ev, ha, k⟩ => by
    obtain ⟨w, h1, h2⟩ := k n _ (List.mem_of_getElem? e)
    exact ⟨a, C, dx, fs, w, ev, hid_sub _ _ ha, cl, na, h1, q w H1 g1 h2⟩
/-! ### lists -/
/-- isinstance(e, list) -/
theorem ev_isL {xs : List α} {tc : TE} (h : Ev W ta (tLs K t) xs) (hc : tc = tC (.ty "list") := by rfl) (kl : PySem.W.kitOne K (.type "list") (.type "list") = some true) : Ev W (tCB (rIsi K) (tCons ta (tCons tc tNil))) tBl true := fun σ H o Q q =>
  h σ H o _ fun v H1 g1 ⟨p, vs, e, s, al⟩ => by
    subst hc
    refine ⟨v, .ty "list", .type "list", .type "list", true, rfl,   .ty _, ?_, kl, q _ H1 g1 rfl⟩
    rw [e]
    exact .base (.lst (hid_sub _ _ s))
end
end Cs
set_option maxHeartbeats 4000000
namespace Cs
open PySem PySem.Spec PyProof.Rows L2
/-! ### what is walked, what it is stored to -/
/-- the walk over xs: f is what it leans on -/
structure Wks {α : Type} (J : It) (f : FF) (t : Ty α) (xs : List α) : Prop where
  ex : ∃ Y, Walk J xs.length (fun H => ∃ S, f.p (hid S H)) Y ∧ ∀ i H v H' S, i < xs.length → f.p (hid S H) → (∀ a ∈ S, H a ≠ none) → Y i H v H' → Same H H' ∧ ∃ x, xs[i]? = some x ∧ t.r (hid S H') v x
def Iv {α : Type} (W : Wd) (wi : TI) (t : Ty α) (xs : List α) : Prop := ∀ σ H, Ok W σ H → ∀ R : It → Hp → Prop, (∀ J H1 f, Go1 W σ H H1 → f.p (hid W.S H1) → Wks J f t xs → R J H1) → wi σ H R
def Wd.puts (W : Wd) : List (Nat × SF) → Wd
  | [] => W
  | p :: ps => Wd.puts (W.at p.1 p.2) ps
def Tgt {α : Type} (g : TG) (t : Ty α) (as : α → List (Nat × SF)) : Prop := ∀ (W : Wd) σ H v x, Ok W σ H → t.r (hid W.S H) v x → ∀ Q : L2.St → Hp → Prop, (∀ σ', Ok (W.puts (as x)) σ' H → (∀ vs : List Nat, (∀ p ∈ as x, p.1 ∈ vs) → wipe σ' vs = wipe σ vs) → Q σ' H) → g v σ H Q
theorem tgt_name {α : Type} {t : Ty α} {i : Nat} : Tgt (gName i) t (fun x => [(i, t.is x)]) := fun W σ H v x o r Q q => q _ (o.put (f := t.is x) r) fun vs h => wipe_set (h (i, t.is x) (List.mem_cons_self ..))
theorem tgt_pair {α β : Type} {K : PySem.W.Frag} {t : Ty α} {u : Ty β} {i j : Nat} : Tgt (gTup K 2 (gCons (gName i) (gCons (gName j) gNil))) (tPr K t u) (fun p => [(i, t.is p.1), (j, u.is p.2)]) := fun W σ H v x o ⟨p, a, b, e, s, r1, r2⟩ Q q =>
  ⟨p, [a, b], e, sqT_mono hid_sub s, rfl, a, [b], rfl, b, [], rfl, rfl, q _ ((o.put (i := i) (f := t.is x.1) r1).put (i := j) (f := u.is x.2) r2) fun vs h => by
    rw [wipe_set (h (j, u.is x.2) (by simp)), wipe_set (h (i, t.is x.1) (List.mem_cons_self ..))]⟩
section
variable {α β γ : Type} {W : Wd} {K : PySem.W.Frag} {ta tb tc : TE} {t : Ty α} {u : Ty β} {x : α} {y : β} {tt uu : TT} {ar : TA} {ts us : TS} {D : Ends} {g : TG} {as : α → List (Nat × SF)} {wi : TI}
theorem iv_list {xs : List α} (h : Ev W ta (tLs K t) xs) : Iv W (iList K ta) t xs := fun σ H o R q => h σ H o _ fun v H1 g1 ⟨p, vs, e, s, al⟩ =>
  ⟨p, e, ⟨vs, (SqL.of (hid_sub _ _ s))⟩, q _ _ (ffL K t p vs xs) g1 ⟨SqL.of s, al⟩ ⟨YAt vs, by
    rw [← al.length]
    exact walk_list.mono (fun H ⟨S, z⟩ => hid_sub.seq z.1) fun i H v H' _ _ h => h, fun i H v H' S hi z _ ⟨e1, e2⟩ => by
    subst e1
    obtain ⟨x, h1, h2⟩ := z.2.getV e2
    exact ⟨Same.refl _, x, h1, h2⟩⟩⟩
theorem iv_rev {xs : List α} (h : Ev W ta (tLs K t) xs) : Iv W (RT.iRevA K ta) t xs.reverse := fun σ H o R q => h σ H o _ fun v H1 g1 ⟨p, vs, e, s, al⟩ =>
  ⟨p, vs, e, .inl ⟨(SqL.of (hid_sub _ _ s)), q _ _ (ffL K t p vs xs) g1 ⟨SqL.of s, al⟩ ⟨fun i H x H' => H' = H ∧ vs[vs.length - 1 - i]? = some x, by
    rw [List.length_reverse, ← al.length]
    exact walk_rev.mono (fun H ⟨S, z⟩ => hid_sub.seq z.1) fun i H v H' _ _ h => h, fun i H v H' S hi z _ ⟨e1, e2⟩ => by
    subst e1
    obtain ⟨x, h1, h2⟩ := z.2.getV e2
    refine ⟨Same.refl _, x, ?_, h2⟩
    rw [List.length_reverse] at hi
    rw [List.getElem?_reverse hi, ← al.length]
    exact h1⟩⟩⟩
def ffT : FF := ⟨fun _ => True, fun _ h => h⟩
theorem iv_range1 {n : Int} (h : Ev W ta tInt n) (h1 : -(2 ^ 62) ≤ n) (h2 : n < 2 ^ 62) : Iv W (iRng1 (tCons ta tNil)) tInt ((List.range n.toNat).map fun (i : Nat) => (i : Int)) := fun σ H o R q => h σ H o _ fun v H1 g1 r =>
  ⟨n, by rw [show v = .int n from r], h1, h2, q _ _ ffT g1 trivial ⟨YFn fun (i : Nat) => .int (0 + (i : Int)), by
    rw [List.length_map, List.length_range]
    exact walk_range.mono (fun _ _ => trivial) fun i H v H' _ _ h => h, fun i H v H' S hi z _ ⟨e1, e2⟩ => by
    subst e1 e2
    rw [List.length_map, List.length_range] at hi
    exact ⟨Same.refl _, (i : Int), by rw [List.getElem?_map, List.getElem?_range hi]; rfl, by show V.int (0 + (i : Int)) = V.int (i : Int); rw [Int.zero_add]⟩⟩⟩
/-- an iterable whose length has several answers -/
theorem evx_range1 {P : Int → Prop} {R' : Hp → Prop} {σ : L2.St} {H : Hp} {R : It → Hp → Prop} (o : Ok W σ H) (h : Evx W ta tInt P) (h1 : ∀ n, P n → -(2 ^ 62) ≤ n ∧ n < 2 ^ 62) (q : ∀ n J H1 f, P n → Go1 W σ H H1 → f.p (hid W.S H1) → Wks J f tInt ((List.range n.toNat).map fun (i : Nat) => (i : Int)) → R J H1) : iRng1 (tCons ta tNil) σ H R :=
  h σ H o _ fun v n H1 p g1 r => ⟨n, by rw [show v = .int n from r], (h1 n p).1, (h1 n p).2, q n _ _ ffT p g1 trivial ⟨YFn fun (i : Nat) => .int (0 + (i : Int)), by
    rw [List.length_map, List.length_range]
    exact walk_range.mono (fun _ _ => trivial) fun i H v H' _ _ h => h, fun i H v H' S hi z _ ⟨e1, e2⟩ => by
    subst e1 e2
    rw [List.length_map, List.length_range] at hi
    exact ⟨Same.refl _, (i : Int), by rw [List.getElem?_map, List.getElem?_range hi]; rfl, by show V.int (0 + (i : Int)) = V.int (i : Int); rw [Int.zero_add]⟩⟩⟩
/-! ### for -/
/-- a for over xs: the things and the slots at each turn by a parameter -/
theorem for_core {ι : Type} {xs : List α} {J : It} {f : FF} {σ : L2.St} {H1 : Hp} (wk : Wks J f t xs) (tg : Tgt g t as) (JJ : Nat → ι → Wd) (Pv : Nat → ι → Prop) (hS : ∀ k c, (JJ k c).F = f :: W.F)
    (start : ∃ c, Pv 0 c ∧ Ok (JJ 0 c) σ H1)
    (hs : ∀ k c x, xs[k]? = some x → Pv k c → Go ((JJ k c).puts (as x)) ts { D with nx := fun σ H => ∃ c', Pv (k + 1) c' ∧ Ok (JJ (k + 1) c') σ H, ct := fun σ H => ∃ c', Pv (k + 1) c' ∧ Ok (JJ (k + 1) c') σ H, bk := D.nx })
    (hd : ∀ c, Pv xs.length c → ∀ σ H, Ok (JJ xs.length c) σ H → D.nx σ H) :
    ∃ Wm : Nat → Nat → L2.St → Hp → Prop, (∃ m, Wm 0 m σ H1) ∧ ∀ i m σ H, Wm i m σ H →
      (J.stop i H ∧ D.nx σ H) ∨ (J.go i H ∧ ∃ N : L2.St → Hp → Prop, (∀ σ' H', N σ' H' → ∃ m', m' < m ∧ Wm (i + 1) m' σ' H') ∧ ∀ x H', J.yld i H x H' → g x σ H' fun σ2 H2 => ts { D with nx := N, ct := N, bk := D.nx } σ2 H2) := by
  obtain ⟨Y, wY, hY⟩ := wk.ex
  have ff : ∀ k c σ H, Ok (JJ k c) σ H → f.p (hid (JJ k c).S H) := fun k c σ H o => o.facts f (by rw [hS]; exact List.mem_cons_self ..)
  refine for_it wY (fun k σ H => ∃ c, Pv k c ∧ Ok (JJ k c) σ H) start (fun k σ H _ ⟨c, _, o⟩ => ⟨_, ff k c σ H o⟩) ?_ ?_
  · rintro k v σ H H' hk ⟨c, pc, o⟩ y
    obtain ⟨e, x, hx, rx⟩ := hY k H v H' _ hk (ff k c σ H o) o.al y
    exact tg _ σ H' v x (o.same e) rx _ fun σ' o' _ => hs k c x hx pc σ' H' o'
  · rintro σ H ⟨c, pc, o⟩
    exact hd c pc σ H o
theorem go_for {ι : Type} {xs : List α} (h : Iv W wi t xs) (tg : Tgt g t as) (J : Nat → ι → List RS × List (Option SF)) (Pv : Nat → ι → Prop) (c0 : ι) (p0 : Pv 0 c0) (w0 : Wk W { W with L := (J 0 c0).1, G := (J 0 c0).2 })
    (hs : ∀ k c x (f : FF), xs[k]? = some x → Pv k c → Go (Wd.puts ⟨W.H0, W.M, W.S, (J k c).1, f :: W.F, (J k c).2⟩ (as x)) ts
      { D with nx := fun σ H => ∃ c', Pv (k + 1) c' ∧ Ok ⟨W.H0, W.M, W.S, (J (k + 1) c').1, f :: W.F, (J (k + 1) c').2⟩ σ H, ct := fun σ H => ∃ c', Pv (k + 1) c' ∧ Ok ⟨W.H0, W.M, W.S, (J (k + 1) c').1, f :: W.F, (J (k + 1) c').2⟩ σ H, bk := D.nx })
    (hd : ∀ c, Pv xs.length c → ∀ σ H, Ok { W with L := (J xs.length c).1, G := (J xs.length c).2 } σ H → D.nx σ H) :
    Go W (tFor wi g ts) D := fun σ H o => h σ H o _ fun Ji H1 f g1 fp wk =>
  for_core wk tg (fun k c => ⟨W.H0, W.M, W.S, (J k c).1, f :: W.F, (J k c).2⟩) Pv (fun _ _ => rfl) ⟨c0, p0, Ok.know (w0 _ _ g1.ok) fp⟩ (fun k c x hx pc => hs k c x f hx pc) fun c pc σ' H' o' => hd c pc σ' H'
    ⟨o'.nod, o'.own, o'.at_, o'.ms, o'.al, o'.bt, o'.len, fun q m => o'.facts q (List.mem_cons_of_mem _ m), o'.slots⟩
/-! ### comprehensions -/
/-- what a comprehension makes of xs where test and element have several answers -/
inductive LcR (P : α → Bool → Prop) (R : α → β → Prop) : List α → List β → Prop
  | nil : LcR P R [] []
  | skip {xs ys x} : LcR P R xs ys → P x false → LcR P R (xs ++ [x]) ys
  | take {xs ys x y} : LcR P R xs ys → P x true → R x y → LcR P R (xs ++ [x]) (ys ++ [y])
theorem LcR.len {P : α → Bool → Prop} {R : α → β → Prop} {xs : List α} {ys : List β} (h : LcR P R xs ys) : ys.length ≤ xs.length := by
  induction h with
  | nil => exact Nat.le_refl _
  | skip _ _ ih => rw [List.length_append]; exact Nat.le_trans ih (Nat.le_add_right _ _)
  | take _ _ _ ih => rw [List.length_append, List.length_append]; simpa using ih
theorem LcR.det {p : α → Bool} {f : α → β} {xs : List α} {ys : List β} (h : LcR (fun x b => b = p x) (fun x y => y = f x) xs ys) : ys = (xs.filter p).map f := by
  induction h with
  | nil => rfl
  | skip _ hp ih => rw [filterMap_snoc, ← hp, ih]; simp
  | take _ hp hy ih => rw [filterMap_snoc, ← hp, ih, hy]; simp
theorem LcR.sub {P : α → Bool → Prop} {xs ys : List α} (h : LcR P (fun x y => y = x) xs ys) : ys.Sublist xs := by
  induction h with
  | nil => exact List.Sublist.refl _
  | skip _ _ ih => exact ih.trans (List.sublist_append_left _ _)
  | take _ _ e ih => rw [e]; exact List.Sublist.append ih (List.Sublist.refl _)
theorem LcR.all {P : α → Bool → Prop} {R : α → β → Prop} {p : β → Prop} {xs : List α} {ys : List β} (h : LcR P R xs ys) (f : ∀ x y, x ∈ xs → P x true → R x y → p y) : ∀ y, y ∈ ys → p y := by
  induction h with
  | nil => intro y m; cases m
  | skip _ _ ih => exact ih fun x y m => f x y (List.mem_append_left _ m)
  | take _ hp hr ih =>
    intro y m
    rcases List.mem_append.mp m with m | m
    · exact ih (fun x y m => f x y (List.mem_append_left _ m)) y m
    · rw [List.mem_singleton.mp m]
      exact f _ _ (List.mem_append_right _ (List.mem_singleton.mpr rfl)) hp hr
theorem LcR.full {R : α → β → Prop} {xs : List α} {ys : List β} (h : LcR (fun _ b => b = true) R xs ys) : ys.length = xs.length := by
  induction h with
  | nil => rfl
  | skip _ e _ => cases e
  | take _ _ _ ih => rw [List.length_append, List.length_append, ih]; rfl
theorem evx_lc {xs : List α} {P : α → Bool → Prop} {R : α → β → Prop} {vs : List Nat} (h : Iv W wi t xs) (tg : Tgt g t as) (hi : ∀ x, ∀ p ∈ as x, p.1 ∈ vs) (hl : xs.length < sizeLine)
    (ht : ∀ D φ F x, (∀ f ∈ W.F, f ∈ F) → x ∈ xs → Etx ((W.el D φ F vs).puts (as x)) tt (P x))
    (he : ∀ D φ F x, (∀ f ∈ W.F, f ∈ F) → x ∈ xs → P x true → Evx ((W.el D φ F vs).puts (as x)) tb u (R x)) (hp : ∀ (W : Wd) x, (W.puts (as x)).H0 = W.H0 ∧ (W.puts (as x)).M = W.M ∧ (W.puts (as x)).S = W.S ∧ (W.puts (as x)).L = W.L ∧ (W.puts (as x)).F = W.F := by intros; exact ⟨rfl, rfl, rfl, rfl, rfl⟩) :
    Evx W (tLc wi g tt tb vs) (tLs K u) (LcR P R xs) := fun σ H o Q q => by
  refine h σ H o _ fun J H1 f g1 fp wk => ?_
  intro D nD
  obtain ⟨Y, wY, hY⟩ := wk.ex
  let Wk : List β → Wd := fun ys => ⟨W.H0, W.M, D :: W.S, cell D (cLs u ys) :: W.L, f :: ffS (hid W.S H1) :: W.F, W.G⟩
  have start : Ok (Wk []) σ (upd H1 D (.lst [])) := by
    obtain ⟨o1, up⟩ := g1.ok.cell (ψ := cLs u ([] : List β)) nD ⟨[], rfl, trivial⟩
    exact Ok.know (Ok.know o1 (f := ffS (hid W.S H1)) up) (f := f) (f.mono up fp)
  have ff : ∀ ys H, Ok (Wk ys) σ H → f.p (hid (D :: W.S) H) := fun ys H o => o.facts f (List.mem_cons_self ..)
  refine lc_it wY (fun k H' => ∃ ys, LcR P R (xs.take k) ys ∧ Ok (Wk ys) σ H') ⟨[], .nil, start⟩ (fun k H' _ ⟨ys, _, o'⟩ => ⟨_, ff ys H' o'⟩) ?_ ?_
  · rintro k v H0' H' hk ⟨ys, rel, o'⟩ y
    obtain ⟨e, x, hx, rx⟩ := hY k H0' v H' _ hk (ff ys H0' o') o'.al y
    have o' := o'.same e
    have xm := List.mem_of_getElem? hx
    have sub : ∀ q ∈ W.F, q ∈ f :: ffS (hid W.S H1) :: W.F := fun q m => List.mem_cons_of_mem _ (List.mem_cons_of_mem _ m)
    refine tg _ _ H' v x (Ok.wipe (vs := vs) o') rx _ fun σ' oe ew => ?_
    refine ⟨by rw [ew vs (hi x), wipe_twice], ?_⟩
    have back : ∀ H2, Go1 (((W.el D (cLs u ys) (f :: ffS (hid W.S H1) :: W.F) vs).puts (as x))) σ' H' H2 → Ok (Wk ys) σ H2 := fun H2 g2 => by
      obtain ⟨p1, p2, p3, p4, p5⟩ := hp (W.el D (cLs u ys) (f :: ffS (hid W.S H1) :: W.F) vs) x
      have o2 := g2.ok
      have up := g2.up
      rw [p3] at up
      have o3 : Ok { Wk ys with G := ((W.el D (cLs u ys) (f :: ffS (hid W.S H1) :: W.F) vs).puts (as x)).G } σ' H2 := by
        have : ((W.el D (cLs u ys) (f :: ffS (hid W.S H1) :: W.F) vs).puts (as x)) = { Wk ys with G := ((W.el D (cLs u ys) (f :: ffS (hid W.S H1) :: W.F) vs).puts (as x)).G } := by
          generalize ((W.el D (cLs u ys) (f :: ffS (hid W.S H1) :: W.F) vs).puts (as x)) = Z at p1 p2 p3 p4 p5 ⊢
          cases Z
          cases p1; cases p2; cases p3; cases p4; cases p5
          rfl
        rw [← this]
        exact o2
      exact Ok.swap (W := Wk ys) o' o3 up
    refine ht D _ _ x sub xm _ _ oe _ fun b H2 pb g2 => ?_
    cases b with
    | false =>
      refine iteF ⟨ys, ?_, back H2 g2⟩
      rw [take_snoc hx]
      exact .skip rel pb
    | true =>
      refine iteT ?_
      refine he D _ _ x sub xm pb _ _ g2.ok _ fun w z H3 pz g3 rz => ?_
      have o3 := back H3 (g2.trans g3)
      obtain ⟨ob, hob, us', rfl, hus⟩ := o3.at_ _ (List.mem_cons_self ..)
      refine ⟨us', hob, ?_, ys ++ [z], ?_, ?_⟩
      · rw [hus.length]
        refine Nat.lt_of_le_of_lt (Nat.le_trans rel.len ?_) hl
        rw [List.length_take]
        omega
      · rw [take_snoc hx]
        exact .take rel pb pz
      · rw [(hp (W.el D (cLs u ys) (f :: ffS (hid W.S H1) :: W.F) vs) x).2.2.1] at rz
        exact (o3.write (ψ := cLs u (ys ++ [z])) (o := .lst (us' ++ [w])) rfl ⟨_, rfl, hus.app (ws := [w]) (ys := [z]) ⟨rz, trivial⟩⟩).ok
  · rintro H' ⟨ys, rel, o2⟩
    rw [List.take_length] at rel
    obtain ⟨ob, hob, us', rfl, hus⟩ := o2.at_ _ (List.mem_cons_self ..)
    have up := o2.facts (ffS (hid W.S H1)) (List.mem_cons_of_mem _ (List.mem_cons_self ..))
    have less : Same (hid (D :: W.S) H') (hid W.S H') := hid_less fun a h => List.mem_cons_of_mem _ h
    have o3 := Ok.drop (N := [D]) o2 (ok_sub g1.ok) g1.ok.ms
    have o4 : Ok W σ H' := ⟨o3.nod, o3.own, o3.at_, o3.ms, o3.al, o3.bt, o3.len, fun f m => o3.facts f (List.mem_cons_of_mem _ (List.mem_cons_of_mem _ m)), o3.slots⟩
    refine q _ ys _ rel (g1.trans ⟨o4, up.trans less⟩) ⟨D, us', rfl, ?_, All2.mono (fun _ _ => u.mono less) hus⟩
    rw [hid_of (g1.ok.off nD)]
    exact hob
theorem ev_lcf {xs : List α} {p : α → Bool} {f : α → β} {vs : List Nat} (h : Iv W wi t xs) (tg : Tgt g t as) (hi : ∀ x, ∀ p ∈ as x, p.1 ∈ vs) (hl : xs.length < sizeLine)
    (ht : ∀ D φ F x, (∀ f ∈ W.F, f ∈ F) → x ∈ xs → Et ((W.el D φ F vs).puts (as x)) tt (p x))
    (he : ∀ D φ F x, (∀ f ∈ W.F, f ∈ F) → x ∈ xs → p x = true → Ev ((W.el D φ F vs).puts (as x)) tb u (f x)) (hp : ∀ (W : Wd) x, (W.puts (as x)).H0 = W.H0 ∧ (W.puts (as x)).M = W.M ∧ (W.puts (as x)).S = W.S ∧ (W.puts (as x)).L = W.L ∧ (W.puts (as x)).F = W.F := by intros; exact ⟨rfl, rfl, rfl, rfl, rfl⟩) :
    Ev W (tLc wi g tt tb vs) (tLs K u) ((xs.filter p).map f) := fun σ H o Q q =>
  evx_lc (P := fun x b => b = p x) (R := fun x y => y = f x) h tg hi hl (fun D φ F x hF hx => (ht D φ F x hF hx).toX rfl) (fun D φ F x hF hx e => (he D φ F x hF hx e.symm).x rfl) hp σ H o Q fun v ys H' r g1 rr => q v H' g1 (r.det ▸ rr)
theorem ev_lcm {xs : List α} {f : α → β} {vs : List Nat} (h : Iv W wi t xs) (tg : Tgt g t as) (hi : ∀ x, ∀ p ∈ as x, p.1 ∈ vs) (hl : xs.length < sizeLine)
    (he : ∀ D φ F x, (∀ f ∈ W.F, f ∈ F) → x ∈ xs → Ev ((W.el D φ F vs).puts (as x)) tb u (f x)) (hp : ∀ (W : Wd) x, (W.puts (as x)).H0 = W.H0 ∧ (W.puts (as x)).M = W.M ∧ (W.puts (as x)).S = W.S ∧ (W.puts (as x)).L = W.L ∧ (W.puts (as x)).F = W.F := by intros; exact ⟨rfl, rfl, rfl, rfl, rfl⟩) :
    Ev W (tLc wi g tYes tb vs) (tLs K u) (xs.map f) :=
  ev_is (ev_lcf (p := fun _ => true) h tg hi hl (fun _ _ _ _ _ _ => et_yes) (fun D φ F x hF hx _ => he D φ F x hF hx) hp) (by rw [filter_yes])
end
end Cs
set_option maxHeartbeats 4000000
namespace Cs
open PySem PySem.Spec PyProof.Rows L2
/-! ### draws -/
def cDk (K : PySem.W.Frag) (d l : Addr) (ns : List Int) : CF := ⟨fun F o => ∃ b c e, o = DeckO l b c e ∧ SqL K F l (ns.map V.int) ∧ l ≠ d ∧ 0 ≤ b, fun e ⟨b, c, f, h, g, k⟩ => ⟨b, c, f, h, e.seq g, k⟩⟩
/-- the deck, where the script's own list is new, too -/
def spDeckN (K : PySem.W.Frag) : Sp := fun vs H Q _ => ∃ (a : Addr) (ns : List Int), vs = [.ref a] ∧ SqL K H a (ns.map V.int) ∧ ∀ d l H', Same H H' → H d = none → H l = none → DeckA K H' d l ns → Q (.ref d) H'
section
variable {α β γ : Type} {W : Wd} {K : PySem.W.Frag} {ta tb tc : TE} {t : Ty α} {u : Ty β} {x x' : α} {y : β} {tt uu : TT} {ar : TA} {fs : List SF} {i j : Int} {E : XK} {ts us : TS} {D : Ends} {z z' : Str} {g : TG} {as : α → List (Nat × SF)} {wi : TI}
theorem evx_draw {m : Int} {s : Nat} {d l : Addr} {ns : List Int} (hs : W.G[s]? = some (some (tRf.is d))) (hL : cell d (cDk K d l ns) ∈ W.L) (hm : Ev W ta tInt m) (m0 : 0 < m) (mb : m.natAbs < 2 ^ 8000) :
    Evx W (tCall (spDrawA K) [] E (tCons (tVar s) (tCons ta tNil))) tInt (fun v => 0 ≤ v ∧ v < m) := fun σ H o Q q => by
  obtain ⟨v, h1, rfl⟩ := o.slots s _ hs
  refine ⟨.ref d, h1, ?_⟩
  refine hm σ H o _ fun v H1 g1 r => ?_
  obtain ⟨ob, hob, b, c, e, rfl, hl, ne, b0⟩ := g1.ok.at_ _ hL
  refine ⟨d, m, l, ns, by rw [show v = .int m from r]; rfl, m0, mb, ⟨b, c, e, hob, hid_sub.seq hl, ne, b0⟩, fun w H2 w0 w1 bt ⟨b', c', e', hob', _, _, b0'⟩ => ?_⟩
  have fd : fps [cell d (cDk K d l ns)] = [d] := rfl
  have bt' : Bt (fps [cell d (cDk K d l ns)]) H1 H2 := fun a o n h => bt a o (fun z => n (by rw [fd, z]; exact List.mem_cons_self ..)) h
  have hd : d ∈ W.S := (g1.ok.own d (mem_fps hL (List.mem_cons_self ..))).1
  have up : Same (hid W.S H1) (hid W.S H2) := bt'.hid (N := []) (fun a m => by rw [fd] at m; rw [List.mem_singleton.mp m]; exact hd) (fun a m => nomatch m)
  have g2 := g1.ok.after (C := [cell d (cDk K d l ns)]) (fun r m => by rw [List.mem_singleton.mp m]; exact hL) bt' (fun a m => by rw [fd] at m; rw [List.mem_singleton.mp m, hob']; simp) (fun r m => by
    rw [List.mem_singleton.mp m]
    exact ⟨_, hob', b', c', e', rfl, up.seq hl, ne, b0'⟩)
  exact q _ w H2 ⟨w0, w1⟩ (g1.trans g2) rfl
/-- deck = _law_deck(script) -/
theorem go_deck {ns : List Int} {s n : Nat} (hs : W.G[s]? = some (some ((tSc K).is ns))) (k : ∀ d l, Go ⟨W.H0, W.M, d :: W.S, cell d (cDk K d l ns) :: W.L, W.F, W.G.set n (some (tRf.is d))⟩ us D) : Go W (tSeq (tAsg (tCall (spDeckN K) [] E (tCons (tVar s) tNil)) (gName n)) us) D := fun σ H o => by
  obtain ⟨v, h1, p, rfl, hq⟩ := o.slots s _ hs
  refine ⟨.ref p, h1, p, ns, rfl, ?_, fun d l H' e nd nl ⟨b, c, f, hd, hl, ne, b0⟩ => ?_⟩
  · exact hid_sub.seq hq
  · have o1 := o.same e
    have nl' : l ∉ [d] ++ W.S := fun z => by
      rcases List.mem_cons.mp z with z | z
      · exact ne z
      · exact o.al l z nl
    have e2 : Bt (fps ([] : List RS)) H H' := Bt.of e
    obtain ⟨o2, _⟩ := o.change1 (C := []) (C' := [cell d (cDk K d l ns)]) (R := W.L) (N := [d]) (H' := H') rfl e2 (fun a m => by rw [List.mem_singleton.mp m]; exact ⟨nd, by rw [hd]; simp⟩) (by show [d].Nodup; simp) (fun a m => .inr m) (fun a m => nomatch m) (fun r m => by
      rw [List.mem_singleton.mp m]
      refine ⟨_, hd, b, c, f, rfl, ?_, ne, b0⟩
      rcases hl with (hl | ⟨ob, hl⟩) | hl
      · exact .inl (.inl (by rw [hid_of nl']; exact hl))
      · exact .inl (.inr ⟨ob, by rw [hid_of nl']; exact hl⟩)
      · exact .inr hl)
    exact k d l _ _ (Ok.put (i := n) (f := tRf.is d) o2 rfl)
/-! ### fractions -/
theorem ev_ratio {p q : Int} (ha : Ev W ta tInt p) (hb : Ev W tb tInt q) (q0 : q ≠ 0) (hp : p.natAbs < 2 ^ 2400) (hq : q.natAbs < 2 ^ 2400) : Ev W (tCall spRatio [] E (tCons ta (tCons tb tNil))) (tFr K) (Rat.divInt p q) := fun σ H o Q k =>
  ha σ H o _ fun v H1 g1 r1 => hb σ H1 g1.ok _ fun v2 H2 g2 r2 => ⟨p, q, by rw [show v = .int p from r1, show v2 = .int q from r2]; rfl, q0, hp, hq, fun a H3 e na ha =>
    k _ _ ((g1.trans g2).trans (g2.ok.go e)) ⟨a, rfl, SqT.of (by rw [hid_of (g2.ok.off na)]; exact ha)⟩⟩
theorem evx_ratio {P P' : Int → Prop} (ha : Evx W ta tInt P) (hb : Evx W tb tInt P') (c : ∀ p q, P p → P' q → q ≠ 0 ∧ p.natAbs < 2 ^ 2400 ∧ q.natAbs < 2 ^ 2400) : Evx W (tCall spRatio [] E (tCons ta (tCons tb tNil))) (tFr K) (fun r => ∃ p q, P p ∧ P' q ∧ r = Rat.divInt p q) := fun σ H o Q k =>
  ha σ H o _ fun v p H1 pp g1 r1 => hb σ H1 g1.ok _ fun v2 q H2 pq g2 r2 => ⟨p, q, by rw [show v = .int p from r1, show v2 = .int q from r2]; rfl, (c p q pp pq).1, (c p q pp pq).2.1, (c p q pp pq).2.2, fun a H3 e na ha =>
    k _ _ _ ⟨p, q, pp, pq, rfl⟩ ((g1.trans g2).trans (g2.ok.go e)) ⟨a, rfl, SqT.of (by rw [hid_of (g2.ok.off na)]; exact ha)⟩⟩
theorem ev_frc {p q : Int} (ha : Ev W ta tInt p) (hb : Ev W tb tInt q) (q0 : q ≠ 0) (hq : q.natAbs < 2 ^ 9000) : Ev W (tCall spFrac [] E (tCons ta (tCons tb tNil))) (tFr K) (Rat.divInt p q) := fun σ H o Q k =>
  ha σ H o _ fun v H1 g1 r1 => hb σ H1 g1.ok _ fun v2 H2 g2 r2 => ⟨p, q, by rw [show v = .int p from r1, show v2 = .int q from r2]; rfl, q0, hq, fun a H3 e na ha =>
    k _ _ ((g1.trans g2).trans (g2.ok.go e)) ⟨a, rfl, SqT.of (by rw [hid_of (g2.ok.off na)]; exact ha)⟩⟩
theorem ev_frc1 {p : Int} (ha : Ev W ta tInt p) : Ev W (tCall spFrac [.int 1] E (tCons ta tNil)) (tFr K) (p : Rat) := fun σ H o Q k =>
  ha σ H o _ fun v H1 g1 r1 => ⟨p, 1, by rw [show v = .int p from r1]; rfl, by decide, Nat.lt_of_lt_of_le (by decide : (1 : Int).natAbs < 2 ^ 1) (Nat.pow_le_pow_right (by decide) (by decide)), fun a H3 e na ha =>
    k _ _ (g1.trans (g1.ok.go e)) ⟨a, rfl, SqT.of (by
      rw [hid_of (g1.ok.off na), ha]
      have : Rat.divInt p 1 = (p : Rat) := by
        rw [Rat.divInt_eq_div, show ((1 : Int) : Rat) = 1 from rfl]; grind
      rw [this]; rfl)⟩⟩
/-! ### lists, again -/
theorem ev_cat {xs ys : List α} (ha : Ev W ta (tLs K t) xs) (hb : Ev W tb (tLs K t) ys) (hl : xs.length + ys.length ≤ sizeLine) : Ev W (tOp rCat ta tb) (tLs K t) (xs ++ ys) := fun σ H o Q q =>
  ha σ H o _ fun v H1 g1 r1 => hb σ H1 g1.ok _ fun v2 H2 g2 ⟨p2, vs2, e2, s2, al2⟩ => by
    obtain ⟨p1, vs1, e1, s1, al1⟩ := (tLs K t).mono g2.up r1
    exact ⟨p1, p2, vs1, vs2, e1, e2, hid_sub _ _ s1, hid_sub _ _ s2, by rw [al1.length, al2.length]; exact hl, fun p np => q _ _ ((g1.trans g2).trans (g2.ok.new np))
      ⟨p, vs1 ++ vs2, rfl, (by rw [hid_of (g2.ok.off np)]; exact upd_same), All2.mono (fun _ _ => t.mono (g2.ok.new np).up) (al1.app al2)⟩⟩
/-- arguments with stars -/
theorem el_star {xs ys : List α} (ha : Ev W ta (tLs K t) xs) (hr : El W ar t ys) : El W (StX.tStar K ta ar) t (xs ++ ys) := fun σ H o Q q =>
  ha σ H o _ fun v H1 g1 ⟨p, vs, e, s, al⟩ => ⟨p, vs, e, .inr ((SqL.of (hid_sub _ _ s))), hr σ H1 g1.ok _ fun ws H2 g2 r2 => q _ _ (g1.trans g2) ((All2.mono (fun _ _ => t.mono g2.up) al).app r2)⟩
theorem El.go {xs ys : List α} (h : El W ar t xs) (e : xs = ys) : El W ar t ys := e ▸ h
end
end Cs
set_option maxHeartbeats 4000000
namespace Cs
open PySem PySem.Spec PyProof.Rows L2
open Sem (wp)
/-! ### list(reversed(xs)) -/
section
variable {prog : Program} {w : World} {A : Around} {E : Value → Shared → Prop} {s : Shared}
/-- the new list at S takes what the reversed iterator gives -/
theorem ext_rev {it l S : Addr} {items : Array Value} {R : Result → Shared → Prop} {res : Value} {c0 : Nat} (hh : A.handled = none) (hit : s.heap.IsRevIter it l ((items.size : Int) - 1)) (hl : s.heap.IsList l items) (hne : l ≠ it) (hn : items.size ≤ sizeLine)
    (hSi : S ≠ it) (hSl : S ≠ l) (hS : s.heap.get? S = some { cls := .type "list", data := .seq #[] c0 })
    (hR : ∀ (s' : Shared) (acc : Array Value) (c' : Nat), Moved [S, it] (fun a b => b = a) s s' → s'.heap.get? S = some { cls := .type "list", dict := none, data := .seq acc c', slots := #[] } → ItemsOf (fun i v => items[items.size - 1 - i]? = some v) acc items.size → R (.ok (.ret res)) s') :
    wpAny (model prog w) A.in1 (Builtin.List.listExtendWith (.ref S) (.ref it) res) (fun fin s' => match fin with | .done f => R (.ok f) s' | .again c' => c'.quiet = true ∧ codeAny (model prog w) A c' R s') (fun e s' => R (.error e) s') s := by
  have W := (Walks.listRev (prog := prog) (w := w) (A := A.in1) hh it l hne items).toS
  have hSf : S ∉ [it, l] := by simp [hSi, hSl]
  have hT : s.TypeIs (.ref it) "list_reverseiterator" := hit.typeIs
  have same : Builtin.List.listSameRef (.ref S) (.ref it) = false := by simp [Builtin.List.listSameRef, hSi]
  unfold Builtin.List.listExtendWith
  refine wpAny_bind (wpAny_typeOf hT ?_)
  rw [if_neg (by rw [same]; decide)]
  refine wpAny_bind (wpAny_pyIter_revIter hit ?_)
  refine wpAny_bind (wpAny_holding ?_)
  unfold Builtin.List.listLengthHint
  refine wpAny_bind (wpAny_specialOf hT RT.nolen_lri ?_)
  show wpAny _ A.in1 (specialOf (Value.ref it) (Str.ofString "__length_hint__") >>= _) _ _ _
  refine wpAny_bind (wpAny_specialOf hT RT.hint_lri ?_)
  generalize eid : ("list_reverseiterator.__length_hint__" : String) = hint
  wp_delta
  rw [show splitId hint = some ("list_reverseiterator", "__length_hint__") from by subst eid; decide +kernel]
  subst eid
  refine wpAny_bind (wpAny_isInstance (T := "list_reverseiterator") (b := true) hT (by rw [isSubtype_type]; kernel_rfl) ?_)
  refine wpAny_pure ?_
  rw [if_neg (by decide)]
  have st0 : (0 : Nat) ≤ items.size ∧ s.heap.IsRevIter it l ((items.size : Int) - 1 - ((0 : Nat) : Int)) ∧ s.heap.IsList l items := ⟨Nat.zero_le _, by rw [show (items.size : Int) - 1 - ((0 : Nat) : Int) = (items.size : Int) - 1 from by omega]; exact hit, hl⟩
  exact wpAny_pure ⟨plainId_quiet F.plain_extend_loop _, codeAny_extend_loopS W hn _ hSf _ items.size 0 _ _ _ rfl (Nat.zero_le _) st0 hS (ItemsOf.nil _) fun s' acc' c' hm hS' hacc => hR s' acc' c' hm hS' hacc⟩
theorem call_list_rev {it l : Addr} {items : Array Value} {Q : Value → Shared → Prop} (hh : A.handled = none) (hit : s.heap.IsRevIter it l ((items.size : Int) - 1)) (hl : s.heap.IsList l items) (hne : l ≠ it) (hn : items.size ≤ sizeLine)
    (hQ : ∀ (s' : Shared) (acc : Array Value) (c' : Nat), Moved [s.heap.objs.size, it] (fun a b => b = a) { s with heap := s.heap.push { cls := .type "list", data := .seq #[] } } s' → s'.heap.get? s.heap.objs.size = some { cls := .type "list", dict := none, data := .seq acc c', slots := #[] } →
      ItemsOf (fun i v => items[items.size - 1 - i]? = some v) acc items.size → Q (.ref s.heap.objs.size) s') : wpAny (model prog w) A (call (.type "list") [.ref it]) Q E s := by
  refine callType_codes (Q₁ := fun obj s₁ => obj = .ref s.heap.objs.size ∧ s₁ = { s with heap := s.heap.push { cls := .type "list", data := .seq #[] } }) F.called_list (F.typeCall_list_1 _) F.entry_list_init (code_list_new _ ⟨rfl, rfl⟩) fun obj s₁ h₁ => ?_
  obtain ⟨rfl, rfl⟩ := h₁
  have new : (s.heap.push { cls := .type "list", data := .seq #[] }).get? s.heap.objs.size = some { cls := .type "list", data := .seq #[] } := Heap.get?_push_size _ rfl
  have hSi : s.heap.objs.size ≠ it := by obtain ⟨o, ho, _⟩ := id hit; exact Nat.ne_of_gt (Heap.lt_size ho)
  have hSl : s.heap.objs.size ≠ l := by obtain ⟨o, ho, _⟩ := id hl; exact Nat.ne_of_gt (Heap.lt_size ho)
  refine ⟨⟨_, new, rfl⟩, F.args_list_init_2 _ _, ?_⟩
  show wpAny _ A.in1.in1 (Builtin.List.listItems (.ref s.heap.objs.size) >>= fun old => Builtin.List.listUpdate (.ref s.heap.objs.size) (fun _ => #[]) >>= fun _ => letGo old.toList.reverse >>= fun _ => Builtin.List.listExtendWith (.ref s.heap.objs.size) (.ref it) .none) _ _ _
  refine wpAny_bind ?_
  unfold Builtin.List.listItems
  refine wpAny_bind (wpAny_seqItems new rfl (wpAny_pure (wpAny_bind (m := updateSeq s.heap.objs.size fun _ => #[]) (wpAny_updateSeq new rfl (wpAny_bind (wpAny_letGo ?_))))))
  have new2 := Heap.get?_update_self (Obj.mapSeq (fun _ => (#[] : Array Value))) new rfl
  have oth : ∀ b o, b ≠ s.heap.objs.size → (s.heap.push { cls := .type "list", data := .seq #[] }).get? b = some o → ((s.heap.push { cls := .type "list", data := .seq #[] }).update s.heap.objs.size (Obj.mapSeq fun _ => (#[] : Array Value))).get? b = some o :=
    fun b o hb q => (Heap.get?_update_other _ _ (Ne.symm hb)).trans q
  refine ext_rev (A := A.in1) (c0 := _) hh (hit.at fun o q => oth _ o hSi.symm (Heap.get?_push_of_some _ q)) (by obtain ⟨o, ho, r⟩ := id hl; exact ⟨o, oth _ o hSl.symm (Heap.get?_push_of_some _ ho), r⟩) hne hn hSi hSl new2 fun s' acc c' hm hS' hacc => ?_
  have m1 : Moved [s.heap.objs.size, it] (fun a b => b = a) { s with heap := s.heap.push { cls := .type "list", data := .seq #[] } } { s with heap := (s.heap.push { cls := .type "list", data := .seq #[] }).update s.heap.objs.size (Obj.mapSeq fun _ => (#[] : Array Value)) } :=
    ⟨fun b o hb q => oth b o (fun z => hb (by rw [z]; exact List.mem_cons_self ..)) q, rfl, rfl, rfl, Nat.le_refl _⟩
  exact ⟨rfl, hQ s' acc c' (m1.trans (fun _ _ _ h1 h2 => h2.trans h1) hm) hS' hacc⟩
end
/-- list(reversed(e)), e a list -/
def tListRev (te : TE) : TE := fun σ H Q => te σ H fun v H1 => ∃ (a : Addr) (xs : List V), v = .ref a ∧ H1 a = some (.lst xs) ∧ ∀ q, H1 q = none → Q (.ref q) (upd H1 q (.lst xs.reverse))
theorem pe_listRev {X : Cx} {e : Expr} {te : TE} {p p2 pos pos2 : Pos} (hc : X.calm = true) (hg : Gl X "list") (hm : X.mg "list" = none) (hg2 : Gl X "reversed") (hm2 : X.mg "reversed" = none) (he : PE X e te)
    (hs : starEach [e] X.env = (false, eval e X.env) :: starEach [] X.env := by rfl)
    (hs2 : starEach [.Call (.Name "reversed" p2) [e] [] pos2] X.env = (false, eval (.Call (.Name "reversed" p2) [e] [] pos2) X.env) :: starEach [] X.env := by rfl) :
    PE X (.Call (.Name "list" p) [.Call (.Name "reversed" p2) [e] [] pos2] [] pos) (tListRev te) := by
  refine ⟨fun pins s σ H Q I h => ?_⟩
  refine Call_ (ld_blt I hg hm boot_list (PyProof.Rows.callWith_type1 (args_cons (Call_ (ld_blt I hg2 hm2 PyProof.Rows.boot_reversed (PyProof.Rows.callWith_type1 (args_cons (thn (he.run pins s σ H _ I h) fun u s1 ⟨v, H1, I1, r1, q1⟩ => args_nil ?_) hs) hs rfl))) hs2) hs2 rfl))
  obtain ⟨a, xs, ev, hq, q⟩ := q1
  subst ev
  obtain rfl : u = Value.ref a := r1
  obtain ⟨its, rv, pl, hz⟩ := I1.list (SqL.of hq)
  refine call_reversed_list pl.isList (args_nil ?_)
  have up : ∀ b o, s1.heap.get? b = some o → (s1.heap.push (revObj a ((its.toArray.size : Int) - 1))).get? b = some o := fun b o z => Heap.get?_push_of_some _ z
  have I2 : Inv X pins σ H1 { s1 with heap := s1.heap.push (revObj a ((its.toArray.size : Int) - 1)) } := I1.kept (t' := s1.toks) up
  obtain ⟨f0, f1, f2, f3, f4, f5⟩ := I1.fpOk (H' := H1) (b := s1.heap.objs.size) (Nat.le_refl _) (I1.hok.fresh (Nat.le_refl _))
  have isl := pl.isList
  obtain ⟨ol, hol, _⟩ := id isl
  have ne : a ≠ s1.heap.objs.size := Nat.ne_of_lt (Heap.lt_size hol)
  have small : its.toArray.size ≤ sizeLine := by rw [List.size_toArray, ← rv.length]; exact hz
  refine call_list_rev (s := { s1 with heap := s1.heap.push (revObj a ((its.toArray.size : Int) - 1)) }) (I1.ok.hd hc) ⟨_, Heap.get?_push_size _ rfl, rfl, rfl⟩ (isl.push _) ne small fun s2 acc c' mv hS hi => ?_
  have sz : (s1.heap.push (revObj a ((its.toArray.size : Int) - 1))).objs.size = s1.heap.objs.size + 1 := Heap.size_push ..
  have keep : ∀ b o, b ∉ [s1.heap.objs.size] → s1.heap.get? b = some o → s2.heap.get? b = some o := fun b o nb z => by
    have lt := Heap.lt_size z
    refine mv.heap b o (fun y => ?_) (Heap.get?_push_of_some _ (up b o z))
    rcases List.mem_cons.mp y with y | y
    · have y : b = (s1.heap.push (revObj a ((its.toArray.size : Int) - 1))).objs.size := y
      rw [sz] at y
      have lt : b < s1.heap.objs.size := lt
      exact absurd lt (by rw [y]; exact Nat.not_lt.mpr (Nat.le_succ _))
    · exact nb y
  have I3 : Inv X pins σ (upd H1 (s1.heap.objs.size + 1) (.lst xs.reverse)) { s1 with heap := s2.heap, toks := s2.toks } := I1.turnedNew (t' := s2.toks) (ch := [s1.heap.objs.size]) keep (fun b m => by rw [List.mem_singleton.mp m]; exact ⟨f0, f1, f2, f3, f4, f5⟩) (Nat.le_succ _)
    ⟨by rw [List.length_reverse]; exact hz, acc.toList, c', RT.vals_rev rv hi, by rw [Array.toArray_toList, ← sz]; exact hS⟩
  have eS : s2 = { s1 with heap := s2.heap, toks := s2.toks } := by
    have z := Moved.eq_with mv
    rw [z]
  rw [eS]
  refine ⟨.ref (s1.heap.objs.size + 1), _, I3, ?_, q _ (I1.hok.fresh (Nat.le_succ _))⟩
  show Value.ref _ = Value.ref _
  exact congrArg Value.ref sz
end Cs
set_option maxHeartbeats 4000000
namespace Cs
open PySem PySem.Spec PyProof.Rows L2
/-! ### dicts over a walk -/
section
variable {J : It} {n : Nat} {G : Hp → Prop} {Y : Nat → Hp → V → Hp → Prop}
theorem dc_it (w : Walk J n G Y) {g : TG} {tt : TT} {tk tv : TE} {vs : List Nat} {σ : L2.St} {H1 : Hp} {D : Addr} {Qd : Hp → Prop} (Pv : Nat → Hp → Prop) (h0 : Pv 0 (upd H1 D (.dK []))) (hG : ∀ i H, i ≤ n → Pv i H → G H)
    (hs : ∀ i x H H', i < n → Pv i H → Y i H x H' → g x (wipe σ vs) H' fun σ2 H2 => wipe σ2 vs = wipe σ vs ∧ tt σ2 H2 fun b H3 =>
      if b = true then tk σ2 H3 fun y H4 => tv σ2 H4 fun z H5 => ∃ kvs k, y = kV k ∧ H5 D = some (.dK kvs) ∧ kvs.length < sizeLine ∧ Pv (i + 1) (upd H5 D (.dK (putK kvs k z))) else Pv (i + 1) H3) (hd : ∀ H, Pv n H → Qd H) :
    ∃ W : Nat → Nat → Hp → Prop, (∃ m, W 0 m (upd H1 D (.dK []))) ∧ ∀ i m H, W i m H →
      (J.stop i H ∧ Qd H) ∨ (J.go i H ∧ ∃ Nx : Hp → Prop, (∀ H', Nx H' → ∃ m', m' < m ∧ W (i + 1) m' H') ∧ ∀ x H', J.yld i H x H' → g x (wipe σ vs) H' fun σ2 H2 => wipe σ2 vs = wipe σ vs ∧ tt σ2 H2 fun b H3 =>
        if b = true then tk σ2 H3 fun y H4 => tv σ2 H4 fun z H5 => ∃ kvs k, y = kV k ∧ H5 D = some (.dK kvs) ∧ kvs.length < sizeLine ∧ Nx (upd H5 D (.dK (putK kvs k z))) else Nx H3) := by
  refine ⟨fun i m H => m = n - i ∧ i ≤ n ∧ Pv i H, ⟨n, rfl, Nat.zero_le _, h0⟩, ?_⟩
  rintro i m H ⟨rfl, hi, p⟩
  have q := hG i H hi p
  by_cases l : i < n
  · exact .inr ⟨w.goes i H l q, Pv (i + 1), fun H' p' => ⟨n - (i + 1), by omega, rfl, l, p'⟩, fun x H' y => hs i x H H' l p (w.yields i H x H' l q y)⟩
  · obtain rfl : i = n := by omega
    exact .inl ⟨w.stops H q, hd H p⟩
end
section
variable {α β γ : Type} {W : Wd} {K : PySem.W.Frag} {ta tb tc tk tv : TE} {t : Ty α} {u : Ty β} {x x' : α} {y : β} {tt uu : TT} {ar : TA} {fs : List SF} {i j : Int} {E : XK} {ts us : TS} {D : Ends} {z z' : Str} {g : TG} {as : α → List (Nat × SF)} {wi : TI}
theorem keys_put {ks : List Str} {kvs : List (Key × V)} {z : Str} {v : V} (h : ∀ z : Str, (valV kvs (Sum.inr z)).isSome = decide (z ∈ ks)) : ∀ y : Str, (valV (putK kvs (Sum.inr z) v) (Sum.inr y)).isSome = decide (y ∈ ks ++ [z]) := fun y => by
  rw [valV_put]
  by_cases e : y = z
  · subst e
    rw [if_pos rfl]
    simp
  · rw [if_neg (fun q => e (Sum.inr.inj q)), h y]
    rw [Bool.eq_iff_iff, decide_eq_true_iff, decide_eq_true_iff]
    simp [e]
theorem len_put {kvs : List (Key × V)} {n : Nat} {k : Key} {v : V} (h : kvs.length ≤ n) : (putK kvs k v).length ≤ n + 1 := Nat.le_trans (length_putK _ _ _) (by omega)
/-- known = {f(x): e for x in xs}, used as a set of names -/
theorem go_dc {xs : List α} {f : α → Str} {vs : List Nat} {n : Nat} (h : Iv W wi t xs) (tg : Tgt g t as) (hi : ∀ x, ∀ p ∈ as x, p.1 ∈ vs) (hl : xs.length < sizeLine)
    (hk : ∀ D φ F x, (∀ f ∈ W.F, f ∈ F) → x ∈ xs → Ev ((W.el D φ F vs).puts (as x)) tk tSt (f x))
    (hv : ∀ D φ F x, (∀ f ∈ W.F, f ∈ F) → x ∈ xs → ∃ b, Ev ((W.el D φ F vs).puts (as x)) tv tBl b)
    (k : ∀ p, Go ⟨W.H0, W.M, p :: W.S, cell p (cKeys (xs.map f)) :: W.L, W.F, W.G.set n (some (tRf.is p))⟩ us D) (hp : ∀ (W : Wd) x, (W.puts (as x)).H0 = W.H0 ∧ (W.puts (as x)).M = W.M ∧ (W.puts (as x)).S = W.S ∧ (W.puts (as x)).L = W.L ∧ (W.puts (as x)).F = W.F := by intros; exact ⟨rfl, rfl, rfl, rfl, rfl⟩) :
    Go W (tSeq (tAsg (tDc wi g tYes tk tv vs) (gName n)) us) D := fun σ H o => by
  refine h σ H o _ fun J H1 f0 g1 fp wk => ?_
  intro D nD
  obtain ⟨Y, wY, hY⟩ := wk.ex
  let Wk : Nat → Wd := fun k => ⟨W.H0, W.M, D :: W.S, cell D (cKeys ((xs.take k).map f)) :: W.L, f0 :: W.F, W.G⟩
  have start : Ok (Wk 0) σ (upd H1 D (.dK [])) := by
    obtain ⟨o1, up⟩ := g1.ok.cell (ψ := cKeys ([] : List Str)) nD ⟨[], rfl, Nat.le_refl _, fun _ => rfl⟩
    exact Ok.know o1 (f := f0) (f0.mono up fp)
  have ff : ∀ k H, Ok (Wk k) σ H → f0.p (hid (D :: W.S) H) := fun k H o => o.facts f0 (List.mem_cons_self ..)
  refine dc_it wY (fun k H' => Ok (Wk k) σ H') start (fun k H' _ o' => ⟨_, ff k H' o'⟩) ?_ ?_
  · rintro k v H0' H' hk' o' y
    obtain ⟨e, x, hx, rx⟩ := hY k H0' v H' _ hk' (ff k H0' o') o'.al y
    have o' := o'.same e
    have xm := List.mem_of_getElem? hx
    have sub : ∀ q ∈ W.F, q ∈ f0 :: W.F := fun q m => List.mem_cons_of_mem _ m
    refine tg _ _ H' v x (Ok.wipe (vs := vs) o') rx _ fun σ' oe ew => ?_
    refine ⟨by rw [ew vs (hi x), wipe_twice], ?_⟩
    have back : ∀ H2, Go1 (((W.el D (cKeys ((xs.take k).map f)) (f0 :: W.F) vs).puts (as x))) σ' H' H2 → Ok (Wk k) σ H2 := fun H2 g2 => by
      obtain ⟨p1, p2, p3, p4, p5⟩ := hp (W.el D (cKeys ((xs.take k).map f)) (f0 :: W.F) vs) x
      have o2 := g2.ok
      have up := g2.up
      rw [p3] at up
      have o3 : Ok { Wk k with G := ((W.el D (cKeys ((xs.take k).map f)) (f0 :: W.F) vs).puts (as x)).G } σ' H2 := by
        have : ((W.el D (cKeys ((xs.take k).map f)) (f0 :: W.F) vs).puts (as x)) = { Wk k with G := ((W.el D (cKeys ((xs.take k).map f)) (f0 :: W.F) vs).puts (as x)).G } := by
          generalize ((W.el D (cKeys ((xs.take k).map f)) (f0 :: W.F) vs).puts (as x)) = Z at p1 p2 p3 p4 p5 ⊢
          cases Z
          cases p1; cases p2; cases p3; cases p4; cases p5
          rfl
        rw [← this]
        exact o2
      exact Ok.swap (W := Wk k) o' o3 up
    dsimp only [tYes]
    rw [if_pos rfl]
    refine hk D _ _ x sub xm _ _ oe _ fun y H2 g2 ry => ?_
    obtain ⟨b, hb⟩ := hv D (cKeys ((xs.take k).map f)) (f0 :: W.F) x sub xm
    refine hb _ _ g2.ok _ fun w H3 g3 _ => ?_
    have o3 := back H3 (g2.trans g3)
    obtain ⟨ob, hob, kvs, rfl, hlen, hkeys⟩ := o3.at_ _ (List.mem_cons_self ..)
    have hlen' : kvs.length ≤ k := Nat.le_trans hlen (by rw [List.length_map, List.length_take]; omega)
    refine ⟨kvs, Sum.inr (f x), ry, hob, by omega, ?_⟩
    have e3 : (xs.take (k + 1)).map f = (xs.take k).map f ++ [f x] := by rw [take_snoc hx, List.map_append]; rfl
    exact (o3.write (ψ := cKeys ((xs.take (k + 1)).map f)) (o := .dK (putK kvs (Sum.inr (f x)) w)) rfl ⟨_, rfl, by rw [e3, List.length_append]; exact len_put hlen, by rw [e3]; exact keys_put hkeys⟩).ok
  · intro H' o2
    have e : xs.take xs.length = xs := List.take_length
    have o3 : Ok ⟨W.H0, W.M, D :: W.S, cell D (cKeys (xs.map f)) :: W.L, f0 :: W.F, W.G⟩ σ H' := by
      have : Ok (Wk xs.length) σ H' := o2
      have e2 : Wk xs.length = ⟨W.H0, W.M, D :: W.S, cell D (cKeys (xs.map f)) :: W.L, f0 :: W.F, W.G⟩ := by
        show (⟨W.H0, W.M, D :: W.S, cell D (cKeys ((xs.take xs.length).map f)) :: W.L, f0 :: W.F, W.G⟩ : Wd) = _
        rw [e]
      rw [e2] at this
      exact this
    have o4 : Ok ⟨W.H0, W.M, D :: W.S, cell D (cKeys (xs.map f)) :: W.L, W.F, W.G⟩ σ H' := ⟨o3.nod, o3.own, o3.at_, o3.ms, o3.al, o3.bt, o3.len, fun q m => o3.facts q (List.mem_cons_of_mem _ m), o3.slots⟩
    exact k D _ _ (Ok.put (i := n) (f := tRf.is D) o4 rfl)
/-- a name in such a dict -/
theorem et_inK {s : Nat} {p : Addr} {ks : List Str} (hs : W.G[s]? = some (some (tRf.is p))) (hL : cell p (cKeys ks) ∈ W.L) (ha : Ev W ta tSt z) : Et W (tB (tDIn ta (tVar s))) (decide (z ∈ ks)) := fun σ H o Q q =>
  ha σ H o _ fun v H1 g1 r1 => by
    obtain ⟨w, h1, rfl⟩ := g1.ok.slots s _ hs
    obtain ⟨ob, hob, kvs, rfl, _, hk⟩ := g1.ok.at_ _ hL
    refine ⟨.ref p, h1, p, valV kvs (Sum.inr z), rfl, ?_, _, rfl, ?_⟩
    · rw [show v = kV (Sum.inr z) from r1]
      exact DGet.k hob
    · rw [hk]
      exact q H1 g1
theorem et_niK {s : Nat} {p : Addr} {ks : List Str} (hs : W.G[s]? = some (some (tRf.is p))) (hL : cell p (cKeys ks) ∈ W.L) (ha : Ev W ta tSt z) : Et W (tB (tDNotIn ta (tVar s))) (!decide (z ∈ ks)) := fun σ H o Q q =>
  ha σ H o _ fun v H1 g1 r1 => by
    obtain ⟨w, h1, rfl⟩ := g1.ok.slots s _ hs
    obtain ⟨ob, hob, kvs, rfl, _, hk⟩ := g1.ok.at_ _ hL
    refine ⟨.ref p, h1, p, valV kvs (Sum.inr z), rfl, ?_, _, rfl, ?_⟩
    · rw [show v = kV (Sum.inr z) from r1]
      exact DGet.k hob
    · rw [hk]
      exact q H1 g1
/-- fallen[name] = e -/
theorem go_putK {s : Nat} {p : Addr} {ks : List Str} {R : List RS} (hs : W.G[s]? = some (some (tRf.is p))) (hL : W.L.Perm (cell p (cKeys ks) :: R)) (ha : Ev W ta tSt z) (hb : Ev W tb t x) (hl : ks.length < sizeLine) (k : ∀ σ H, Ok { W with L := cell p (cKeys (ks ++ [z])) :: R } σ H → D.nx σ H) : Go W (sDPut (tVar s) ta tb) D := fun σ H o =>
  hb σ H o _ fun v H1 g1 r1 => by
    obtain ⟨w, h1, rfl⟩ := g1.ok.slots s _ hs
    refine ⟨.ref p, h1, ha σ H1 g1.ok _ fun y H2 g2 ry => ?_⟩
    obtain ⟨ob, hob, kvs, rfl, hlen, hk⟩ := g2.ok.at_ (cell p (cKeys ks)) (hL.mem_iff.mpr (List.mem_cons_self ..))
    refine ⟨p, _, rfl, ?_, k _ _ ((g2.ok.perm hL).write (ψ := cKeys (ks ++ [z])) (o := .dK (putK kvs (Sum.inr z) v)) rfl ⟨_, rfl, by rw [List.length_append]; exact len_put hlen, keys_put hk⟩).ok⟩
    rw [show y = kV (Sum.inr z) from ry]
    exact DPut.k hob (by omega)
/-! ### while -/
theorem go_while {ι : Type} (J : ι → Wd) (Pv : ι → Prop) (μ : ι → Nat) (c0 : ι) (p0 : Pv c0) (w0 : Wk W (J c0)) (hs : ∀ c, Pv c → ∃ b, Et (J c) tt b ∧ (b = true → Go (J c) ts { D with nx := fun σ H => ∃ c', Pv c' ∧ μ c' < μ c ∧ Ok (J c') σ H, ct := fun σ H => ∃ c', Pv c' ∧ μ c' < μ c ∧ Ok (J c') σ H, bk := D.nx }) ∧ (b = false → ∀ σ H, Ok (J c) σ H → D.nx σ H)) :
    Go W (tWhile tt ts) D := fun σ H o => by
  refine ⟨fun m σ H => ∃ c, Pv c ∧ m = μ c ∧ Ok (J c) σ H, ⟨μ c0, c0, p0, rfl, w0 σ H o⟩, ?_⟩
  rintro m σ H ⟨c, pc, rfl, o'⟩
  obtain ⟨b, hb, h1, h2⟩ := hs c pc
  refine hb σ H o' _ fun H1 g1 => ?_
  cases b with
  | true => exact ⟨fun σ' H' => ∃ c', Pv c' ∧ μ c' < μ c ∧ Ok (J c') σ' H', fun σ' H' ⟨c', a1, a2, a3⟩ => ⟨μ c', a2, c', a1, rfl, a3⟩, h1 rfl σ H1 g1.ok⟩
  | false => exact h2 rfl σ H1 g1.ok
/-! ### numbers and texts -/
theorem ev_shl (ha : Ev W ta tInt i) (hb : Ev W tb tInt j) (c : CPow i j) : Ev W (tOp (rI CPow fun i j => .int (i * 2 ^ j.toNat)) ta tb) tInt (i * 2 ^ j.toNat) := fun σ H o Q q =>
  ha σ H o _ fun v H1 g1 r1 => hb σ H1 g1.ok _ fun v2 H2 g2 r2 => ⟨i, j, r1, r2, c, q _ H2 (g1.trans g2) rfl⟩
theorem ev_ixS {n : Int} {c : Nat} (ha : Ev W ta tSt z) (hb : Ev W tb tInt n) (hl : z.length ≤ sizeLine) (e : atI z.cps.toList n = some c) : Ev W (tOp rIxS ta tb) tSt ⟨#[c]⟩ := fun σ H o Q q =>
  ha σ H o _ fun v H1 g1 r1 => hb σ H1 g1.ok _ fun v2 H2 g2 r2 => ⟨z, n, c, r1, r2, hl, e, q _ H2 (g1.trans g2) rfl⟩
theorem ev_listRev {xs : List α} (h : Ev W ta (tLs K t) xs) : Ev W (tListRev ta) (tLs K t) xs.reverse := fun σ H o Q q => h σ H o _ fun v H1 g1 ⟨p, vs, e, s, al⟩ =>
  ⟨p, vs, e, hid_sub _ _ s, fun l nl => q _ _ (g1.trans (g1.ok.new nl)) ⟨l, vs.reverse, rfl, by rw [hid_of (g1.ok.off nl)]; exact upd_same, by
    have rev : ∀ {r : V → α → Prop} (vs : List V) (xs : List α), All2 r vs xs → All2 r vs.reverse xs.reverse := by
      intro r vs
      induction vs with
      | nil => intro xs h; cases xs with
        | nil => exact trivial
        | cons _ _ => exact h.elim
      | cons v vs ih => intro xs h; cases xs with
        | nil => exact h.elim
        | cons x xs =>
          rw [List.reverse_cons, List.reverse_cons]
          exact (ih xs h.2).app (ws := [v]) (ys := [x]) ⟨h.1, trivial⟩
    exact rev _ _ (All2.mono (fun _ _ => t.mono (g1.ok.new nl).up) al)⟩⟩
end
end Cs
set_option maxHeartbeats 4000000
namespace Cs
open PySem PySem.Spec PyProof.Rows L2
/-! ### slots that are forgotten -/
def Sb : List (Option SF) → List (Option SF) → Prop
  | [], [] => True
  | _ :: G, none :: G' => Sb G G'
  | a :: G, some f :: G' => a = some f ∧ Sb G G'
  | _, _ => False
theorem Sb.len : ∀ {G G' : List (Option SF)}, Sb G G' → G.length = G'.length
  | [], [], _ => rfl
  | _ :: G, none :: G', h => by
    have q : Sb G G' := h
    simp [Sb.len q]
  | _ :: _, some _ :: _, h => by simp [Sb.len h.2]
  | [], _ :: _, h => h.elim
  | _ :: _, [], h => h.elim
theorem Sb.get : ∀ {G G' : List (Option SF)} {i : Nat} {f : SF}, Sb G G' → G'[i]? = some (some f) → G[i]? = some (some f)
  | [], [], _, _, _, q => by simp at q
  | _ :: _, none :: _, 0, _, _, q => by simp at q
  | _ :: G, none :: G', i + 1, f, h, q => by
    have h' : Sb G G' := h
    have q' : G'[i]? = some (some f) := q
    show G[i]? = some (some f)
    exact Sb.get h' q'
  | a :: _, some g :: _, 0, f, h, q => by
    obtain ⟨e, _⟩ := h
    subst e
    simpa using q
  | _ :: G, some _ :: G', i + 1, f, h, q => by
    have q' : G'[i]? = some (some f) := q
    show G[i]? = some (some f)
    exact Sb.get h.2 q'
  | [], _ :: _, _, _, h, _ => h.elim
  | _ :: _, [], _, _, h, _ => h.elim
theorem Ok.sb {H0 : Hp} {M S : List Addr} {L : List RS} {F F' : List FF} {G G' : List (Option SF)} {σ : L2.St} {H : Hp} (o : Ok ⟨H0, M, S, L, F, G⟩ σ H) (h : Sb G G') (hF : ∀ f, f ∈ F' → f ∈ F := by first | (intro f m; exact m) | (intro f m; cases m) | (intro f m; exact List.mem_cons_of_mem _ m)) : Ok ⟨H0, M, S, L, F', G'⟩ σ H :=
  Wk.of (H0 := H0) (M := M) (S := S) (L := L) h.len (fun i f q => h.get q) hF σ H o
theorem go_at {W : Wd} {σ : L2.St} {H : Hp} {ts : TS} {D : Ends} (o : Ok W σ H) (h : Go W ts D) : ts D σ H := h σ H o
theorem ev_fracI {W : Wd} {K : PySem.W.Frag} {ta : TE} {n : Int} (ha : Ev W ta tInt n) : Ev W (tTup (tCons ta (tCons (tC (.int 1)) tNil))) (tFr K) (n : Rat) := ev_frac ha ev_int rfl rfl
/-! ### sums -/
theorem zr {n : Nat} {x : Rat} (h : Sz n x) {m : Nat} (k : n ≤ m) : Sz m x := h.mono k
def rsum (rs : List Rat) : Rat := rs.foldl (fun x y => x + y) 0
def rpre (rs : List Rat) (i : Nat) : Rat := rsum (rs.take i)
theorem rpre_zero (rs : List Rat) : rpre rs 0 = 0 := rfl
theorem rpre_succ {rs : List Rat} {i : Nat} {r : Rat} (h : rs[i]? = some r) : rpre rs (i + 1) = rpre rs i + r := by
  unfold rpre rsum
  rw [take_snoc h, List.foldl_append]
  rfl
theorem rpre_all (rs : List Rat) : rpre rs rs.length = rsum rs := by unfold rpre; rw [List.take_length]
theorem sz_addN {n m : Nat} {r s : Rat} (h : Sz n r) (g : Sz m s) : Sz (n + m + 1) (r + s) := by
  rw [← add_div]
  exact sz_div (Int.mul_ne_zero (den_ne r) (den_ne s)) (add_lt (pow_lt h.nn g.dd) (by rw [Nat.add_comm n m]; exact pow_lt g.nn h.dd)) (Nat.lt_trans (pow_lt h.dd g.dd) (Nat.pow_lt_pow_right (by decide) (by omega)))
theorem sz_mulN {n m : Nat} {r s : Rat} (h : Sz n r) (g : Sz m s) : Sz (n + m) (r * s) := by
  rw [← mul_div]
  exact sz_div (Int.mul_ne_zero (den_ne r) (den_ne s)) (pow_lt h.nn g.nn) (pow_lt h.dd g.dd)
theorem rpre_sz {rs : List Rat} {n : Nat} (h : ∀ r ∈ rs, Sz n r) : ∀ i, i ≤ rs.length → Sz ((n + 1) * i + 1) (rpre rs i)
  | 0, _ => by rw [rpre_zero]; exact sz_zero (by omega)
  | i + 1, hi => by
    have hx : rs[i]? = some rs[i] := List.getElem?_eq_getElem (by omega)
    rw [rpre_succ hx]
    have := sz_addN (rpre_sz h i (by omega)) (h _ (List.getElem_mem (by omega : i < rs.length)))
    refine this.mono ?_
    rw [Nat.mul_succ]
    omega
theorem rsum_sz {rs : List Rat} {n : Nat} (h : ∀ r ∈ rs, Sz n r) : Sz ((n + 1) * rs.length + 1) (rsum rs) := by
  have := rpre_sz h rs.length (Nat.le_refl _)
  rwa [rpre_all] at this
theorem foldl_add (rs : List Rat) : ∀ a : Rat, rs.foldl (fun x y => x + y) a = a + rs.foldl (fun x y => x + y) 0 := by
  induction rs with
  | nil => intro a; show a = a + 0; grind
  | cons r rs ih =>
    intro a
    show rs.foldl _ (a + r) = a + rs.foldl _ (0 + r)
    rw [ih (a + r), ih (0 + r)]
    grind
theorem rsum_cons (r : Rat) (rs : List Rat) : rsum (r :: rs) = r + rsum rs := by
  show rs.foldl _ (0 + r) = _
  rw [foldl_add]
  show 0 + r + rsum rs = _
  grind
theorem rsum_nil : rsum [] = 0 := rfl
theorem rsum_app (a b : List Rat) : rsum (a ++ b) = rsum a + rsum b := by
  induction a with
  | nil => show rsum b = 0 + rsum b; grind
  | cons x a ih => rw [List.cons_append, rsum_cons, rsum_cons, ih]; grind
theorem rsum_perm {a b : List Rat} (h : a.Perm b) : rsum a = rsum b := by
  induction h with
  | nil => rfl
  | cons x _ ih => rw [rsum_cons, rsum_cons, ih]
  | swap x y l => rw [rsum_cons, rsum_cons, rsum_cons, rsum_cons]; grind
  | trans _ _ h1 h2 => exact h1.trans h2
theorem rsum_nn {a : List Rat} (h : ∀ x ∈ a, 0 ≤ x) : 0 ≤ rsum a := by
  induction a with
  | nil => show (0 : Rat) ≤ 0; grind
  | cons x a ih =>
    rw [rsum_cons]
    have := h x (List.mem_cons_self ..)
    have := ih fun y m => h y (List.mem_cons_of_mem _ m)
    grind
/-- more items, a greater sum -/
theorem rsum_sub {a b : List Rat} (h : a.Sublist b) (nn : ∀ x ∈ b, 0 ≤ x) : rsum a ≤ rsum b := by
  induction h with
  | slnil => show (0 : Rat) ≤ 0; grind
  | cons x _ ih =>
    rw [rsum_cons]
    have := nn x (List.mem_cons_self ..)
    have := ih fun y m => nn y (List.mem_cons_of_mem _ m)
    grind
  | cons_cons x _ ih =>
    rw [rsum_cons, rsum_cons]
    have := ih fun y m => nn y (List.mem_cons_of_mem _ m)
    grind
/-! ### bonds -/
structure Bd where
  name : Str
  issuer : Str
  units : Int
  face : Rat
  cross : Option Rat
structure BdOk (b : Bd) : Prop where
  u0 : 0 ≤ b.units
  u1 : b.units < 1000
  f0 : 0 ≤ b.face
  fs : Sz 10 b.face
  cs : ∀ c, b.cross = some c → Sz 10 c
def sizeB (b : Bd) : Rat := (b.units : Rat) * b.face
theorem sizeB_sz {b : Bd} (h : BdOk b) : Sz 20 (sizeB b) := by
  have : Sz 10 (b.units : Rat) := Sz.int (by have := h.u0; have := h.u1; show b.units.natAbs < 1024; omega) (by decide)
  exact sz_mulN this h.fs
theorem sizeB_nn {b : Bd} (h : BdOk b) : 0 ≤ sizeB b := by
  have h1 : (0 : Rat) ≤ (b.units : Rat) := by exact_mod_cast h.u0
  exact Rat.mul_nonneg h1 h.f0
/-- what the others that are in default weigh on a bond -/
def load (b : Bd) (others : List Bd) : Rat := rsum ((others.filter fun o => decide (o.issuer = b.issuer)).map sizeB)
def boundB (b : Bd) (others : List Bd) : Bool := match b.cross with
  | none => false
  | some c => decide (0 < cmpR (load b others) c)
theorem cmpR_pos {r s : Rat} : 0 < cmpR r s ↔ s < r := by
  have h3 := cmpR_three r s
  rw [← cmpR_gt]
  omega
theorem boundB_iff {b : Bd} {others : List Bd} : boundB b others = true ↔ ∃ c, b.cross = some c ∧ c < load b others := by
  unfold boundB
  cases h : b.cross with
  | none => simp
  | some c => simp [cmpR_pos]
theorem filter_sub {α : Type} {p q : α → Bool} (h : ∀ x, p x = true → q x = true) : ∀ l : List α, (l.filter p).Sublist (l.filter q)
  | [] => List.Sublist.refl _
  | x :: l => by
    have ih := filter_sub h l
    cases hp : p x with
    | true => rw [List.filter_cons_of_pos hp, List.filter_cons_of_pos (h x hp)]; exact ih.cons_cons x
    | false =>
      rw [List.filter_cons_of_neg (by rw [hp]; decide)]
      cases hq : q x with
      | true => rw [List.filter_cons_of_pos hq]; exact ih.cons x
      | false => rw [List.filter_cons_of_neg (by rw [hq]; decide)]; exact ih
def inN (ks : List Str) (bs : List Bd) : List Bd := bs.filter fun b => decide (b.name ∈ ks)
def Closed (bs : List Bd) (ex T : List Str) : Prop := ∀ b ∈ bs, b.name ∉ T → b.name ∉ ex → boundB b (inN T bs) = false
theorem load_mono {b : Bd} {bs : List Bd} {T U : List Str} (ok : ∀ b ∈ bs, BdOk b) (h : ∀ z, z ∈ T → z ∈ U) : load b (inN T bs) ≤ load b (inN U bs) := by
  unfold load inN
  refine rsum_sub (List.Sublist.map _ ?_) fun x m => ?_
  · rw [List.filter_filter, List.filter_filter]
    refine filter_sub (fun o ho => ?_) _
    simp only [Bool.and_eq_true, decide_eq_true_eq] at ho ⊢
    exact ⟨ho.1, h _ ho.2⟩
  · obtain ⟨o, m1, rfl⟩ := List.mem_map.mp m
    exact sizeB_nn (ok o (List.mem_filter.mp (List.mem_filter.mp m1).1).1)
theorem boundB_mono {b : Bd} {bs : List Bd} {T U : List Str} (ok : ∀ b ∈ bs, BdOk b) (h : ∀ z, z ∈ T → z ∈ U) (q : boundB b (inN T bs) = true) : boundB b (inN U bs) = true := by
  obtain ⟨c, e, l⟩ := boundB_iff.mp q
  exact boundB_iff.mpr ⟨c, e, by have := load_mono (b := b) ok h; grind⟩
/-- the least closed set -/
structure Least (bs : List Bd) (ow ex ks : List Str) : Prop where
  own : ∀ z, z ∈ ow → z ∈ ks
  cl : Closed bs ex ks
  least : ∀ T, (∀ z, z ∈ ow → z ∈ T) → Closed bs ex T → ∀ z, z ∈ ks → z ∈ T
theorem inN_perm {bs cs : List Bd} (h : bs.Perm cs) (T : List Str) : (inN T bs).Perm (inN T cs) := h.filter _
theorem load_perm {b : Bd} {os us : List Bd} (h : os.Perm us) : load b os = load b us := rsum_perm ((h.filter _).map _)
theorem boundB_perm {b : Bd} {os us : List Bd} (h : os.Perm us) : boundB b os = boundB b us := by
  unfold boundB
  cases b.cross with
  | none => rfl
  | some c => rw [load_perm h]
theorem Closed.perm {bs cs : List Bd} (h : bs.Perm cs) {ex T : List Str} (c : Closed bs ex T) : Closed cs ex T := fun b m h1 h2 => by
  rw [← boundB_perm (inN_perm h T)]
  exact c b (h.mem_iff.mpr m) h1 h2
theorem Least.mem_iff {bs cs : List Bd} {own own' ex ks ks' : List Str} (hp : bs.Perm cs) (ho : ∀ z, z ∈ own ↔ z ∈ own') (l : Least bs own ex ks) (l' : Least cs own' ex ks') (z : Str) : z ∈ ks ↔ z ∈ ks' :=
  ⟨fun m => l.least ks' (fun y q => l'.own y ((ho y).mp q)) (l'.cl.perm hp.symm) z m, fun m => l'.least ks (fun y q => l.own y ((ho y).mpr q)) (l.cl.perm hp) z m⟩
/-- one turn: those that are bound are added -/
def bnd (bs : List Bd) (ex ks : List Str) : List Str := (((bs.filter fun b => !decide (b.name ∈ ks) && !decide (b.name ∈ ex)).filter fun b => boundB b (inN ks bs))).map Bd.name
theorem bnd_new {bs : List Bd} {ex ks : List Str} {z : Str} (h : z ∈ bnd bs ex ks) : ∃ b ∈ bs, b.name = z ∧ b.name ∉ ks ∧ b.name ∉ ex ∧ boundB b (inN ks bs) = true := by
  obtain ⟨b, m, rfl⟩ := List.mem_map.mp h
  obtain ⟨m1, m2⟩ := List.mem_filter.mp m
  obtain ⟨m3, m4⟩ := List.mem_filter.mp m1
  simp only [Bool.and_eq_true, Bool.not_eq_true', decide_eq_false_iff_not] at m4
  exact ⟨b, m3, rfl, m4.1, m4.2, m2⟩
theorem bnd_closed {bs : List Bd} {ex ks : List Str} (h : bnd bs ex ks = []) : Closed bs ex ks := fun b m h1 h2 => by
  cases q : boundB b (inN ks bs) with
  | false => rfl
  | true =>
    have : b.name ∈ bnd bs ex ks := List.mem_map.mpr ⟨b, List.mem_filter.mpr ⟨List.mem_filter.mpr ⟨m, by simp [h1, h2]⟩, q⟩, rfl⟩
    rw [h] at this; cases this
theorem bnd_least {bs : List Bd} {ex ks T : List Str} (ok : ∀ b ∈ bs, BdOk b) (hk : ∀ z, z ∈ ks → z ∈ T) (c : Closed bs ex T) : ∀ z, z ∈ bnd bs ex ks → z ∈ T := fun z m => by
  obtain ⟨b, mb, rfl, h1, h2, h3⟩ := bnd_new m
  by_cases q : b.name ∈ T
  · exact q
  · have := c b mb q h2
    rw [boundB_mono ok hk h3] at this
    cases this
/-- how many bonds are not yet in -/
def left (bs : List Bd) (ks : List Str) : Nat := (bs.filter fun b => !decide (b.name ∈ ks)).length
theorem left_lt {bs : List Bd} {ex ks : List Str} (h : bnd bs ex ks ≠ []) : left bs (ks ++ bnd bs ex ks) < left bs ks := by
  obtain ⟨z, m⟩ : ∃ z, z ∈ bnd bs ex ks := by
    cases q : bnd bs ex ks with
    | nil => exact absurd q h
    | cons z _ => exact ⟨z, List.mem_cons_self ..⟩
  obtain ⟨b, mb, rfl, h1, _, _⟩ := bnd_new m
  unfold left
  have sub : ((bs.filter fun b => !decide (b.name ∈ ks ++ bnd bs ex ks))).Sublist (bs.filter fun b => !decide (b.name ∈ ks)) := filter_sub (fun o ho => by
    simp only [Bool.not_eq_true', decide_eq_false_iff_not] at ho ⊢
    exact fun z => ho (List.mem_append_left _ z)) _
  rcases Nat.lt_or_ge ((bs.filter fun b => !decide (b.name ∈ ks ++ bnd bs ex ks)).length) ((bs.filter fun b => !decide (b.name ∈ ks)).length) with q | q
  · exact q
  · have e := sub.eq_of_length_le q
    have : b ∈ bs.filter fun b => !decide (b.name ∈ ks) := List.mem_filter.mpr ⟨mb, by simp [h1]⟩
    rw [← e] at this
    have := (List.mem_filter.mp this).2
    simp [m] at this
theorem left_le (bs : List Bd) (ks : List Str) : left bs ks ≤ bs.length := List.length_filter_le ..
theorem bnd_len (bs : List Bd) (ex ks : List Str) : (bnd bs ex ks).length ≤ bs.length := by
  unfold bnd
  rw [List.length_map]
  exact Nat.le_trans (List.length_filter_le ..) (List.length_filter_le ..)
end Cs
set_option maxHeartbeats 4000000
namespace Cs
open PySem PySem.Spec PyProof.Rows L2
section
variable {X : Cx} {k : Nat} {x : Str} {ps : List Str} {sp : Sp} {p pos : Pos} {e : Expr} {es : List Expr} {t : TA}
/-- a def that may be called with its last argument left out -/
def CalD (P : Program) (w : World) (K : PySem.W.Frag) (mg : Str → Option Value) (base : Heap) (k : Nat) (x : Str) (ps : List Str) (dvs : List V) (sp : Sp) : Prop :=
  ∃ (f : Addr) (fd : FuncData) (ds : List Value), FnOk P w K mg base CX0 k f fd ps sp ∧ mg x = some (.ref f) ∧ PySem.W.keepIn K (.ref f) = true ∧ Binds K fd ps ds ∧ Vals dvs ds
theorem CalD.mono {P : Program} {w : World} {K : PySem.W.Frag} {mg : Str → Option Value} {base : Heap} {j k : Nat} {dvs : List V} (c : CalD P w K mg base j x ps dvs sp) (h : j ≤ k) : CalD P w K mg base k x ps dvs sp := by
  obtain ⟨f, fd, ds, F, g⟩ := c
  exact ⟨f, fd, ds, F.mono h, g⟩
theorem pe_calD {dvs : List V} (c : CalD X.prog X.w X.K X.mg X.base k x ps dvs sp) (hr : Room k X.A) (hg : Gl X x) (ha : PA X (e :: es) t) (hdb : (x == ("__debug__" : Str)) = false := by decide)
    (he : starEach (e :: es) X.env = (false, eval e X.env) :: starEach es X.env := by rfl) (hpl : (backTo pos (starEach es X.env)).any (·.1) = false := by rfl) :
    PE X (.Call (.Name x p) (e :: es) [] pos) (tCall sp dvs E0 t) := by
  obtain ⟨f, fd, ds, F, g, kp, b, hd⟩ := c
  exact pe_call F hr hg g kp b hd pass0 ha hdb he hpl
end
/-! ### rules of a block, the written part told -/
section
variable {X : Cx} {K : PySem.W.Frag} {e : Expr} {ta : TE} {f : Str} {pos : Pos}
theorem pe_fldK (hk : X.K = K) (he : PE X e ta) (hb : attributeBase e f X.env (eval e X.env) = eval e X.env) : PE X (.Attribute e f pos) (tFld K ta f) := hk ▸ pe_fld he hb
theorem op_inK (hk : X.K = K) : OpR X (compareOp .In) (rIn K false) := hk ▸ op_in_seq
theorem op_niK (hk : X.K = K) : OpR X (compareOp .NotIn) (rIn K true) := hk ▸ op_notIn_seq
theorem op_eqDK (hk : X.K = K) (hu : X.A.units + 64 < cLine) : OpR X (compareOp .Eq) (rEqD K) := hk ▸ op_eqD hu
theorem op_neDK (hk : X.K = K) (hu : X.A.units + 64 < cLine) : OpR X (compareOp .NotEq) (rNeD K) := hk ▸ op_neD hu
theorem ix_lstK (h : X.K = K) : IxR X (rIxL K) := h ▸ ix_list
theorem ix_tupK (h : X.K = K) : IxR X (rIxT K) := h ▸ ix_tup
theorem pt_truthK (hk : X.K = K) {a : Expr} (ha : PE X a ta) (he : ∀ whole, isTrue a X.env whole = (do let v ← whole; standAt a.pos; holding [v] (truthy v))) : PT X a (fun σ H Q => ta σ H fun x H' => ∃ k, TruV K x H' k ∧ Q k H') := hk ▸ pt_truth ha he
end
/-! ### name = {..: .. for ..}, the name a local -/
section
variable {X : Cx}
theorem sw_trueD {kx vx : Expr} {gs : List Comprehension} {scope : Scope} {pos py : Pos} {y : Str} {l : Nat} {env : Env} (hk : env.scope.kind = .function) (hy : env.scope.names.lookup y = some .local) (hl : (py.line == pos.line) = true)
    (ha : (scope.names.any fun (n, k) => n == y && (k == .local || k == .cell)) = false) : swapsWith (.DictComp kx vx gs scope pos) (some (.Name y py)) l env = pure true := by
  have e1 : env.kindOf y = some .local := hy
  have e2 : env.blockKind = .function := by unfold Env.blockKind; rw [hk]; rfl
  unfold swapsWith
  simp only [e2, e1, ha, Expr.pos, hl] <;> rfl
theorem ps_setDc {i : Nat} {y : Str} {py : Pos} {kx vx tg iter : Expr} {ifs : List Expr} {scope : Scope} {own : List (Str × Nat)} {pos spos : Pos} {wi : TI} {g : TG} {tt : TT} {tk tv : TE} (hc : X.calm = true) (hN : X.N.Nodup) (hy : X.N[i]? = some y) (hyl : X.env.scope.names.lookup y = some .local)
    (hsw : swapsWith (.DictComp kx vx [⟨tg, iter, ifs, 0⟩] scope pos) (some (.Name y py)) spos.line X.env = pure true) (hi : PI X tg iter wi) (ok : BlkOk X.N X.env.scope scope own)
    (hg : ∀ (s : Shared) (H : Hp) (C : Addr) (cl : List (Str × Addr)) (fp : List Addr), PG (X.blk s H scope (compEnvC scope cl C X.env) fp) tg g) (ht : ∀ (s : Shared) (H : Hp) (C : Addr) (cl : List (Str × Addr)) (fp : List Addr), PTs (X.blk s H scope (compEnvC scope cl C X.env) fp) ifs tt)
    (hk : ∀ (s : Shared) (H : Hp) (C : Addr) (cl : List (Str × Addr)) (fp : List Addr), PE (X.blk s H scope (compEnvC scope cl C X.env) fp) kx tk)
    (he : ∀ (s : Shared) (H : Hp) (C : Addr) (cl : List (Str × Addr)) (fp : List Addr), PE (X.blk s H scope (compEnvC scope cl C X.env) fp) vx tv) (hs : ∀ x, foldedSetIterable iter X.env x = pure x := by intro _; rfl) :
    PS X (.Assign [.Name y py] (.DictComp kx vx [⟨tg, iter, ifs, 0⟩] scope pos) spos) (tAsg (tDc wi g tt tk tv (own.map (·.2))) (gName i)) := by
  refine ⟨fun pins s σ H D I h => ?_⟩
  rw [exec_Assign_Name_used _ _ _ _ hsw]
  refine wpAny_bind (wpAny_standAt (wpAny_bind ?_))
  show wpAny _ X.A (do let _ ← comprehension (.DictComp kx vx [⟨tg, iter, ifs, 0⟩] scope pos) scope X.env (firstIterPos [⟨tg, iter, ifs, 0⟩] pos) newDict false (eval iter X.env) (some (assign (.Name y py) X.env))) _ _ s
  have h : tDc wi g tt tk tv (own.map (·.2)) σ H (fun x H1 => gName i x σ H1 D.nx) := h
  refine wpAny_bind (thn (dc_core (Qf := fun _ s' => SP X pins D .next s') hc hN I hi ok hg ht hk he hs h fun L C s' m H' I' q hn f => ?_) fun _ s' hq => wpAny_pure (wpAny_pure hq))
  show wpAny _ _ (assign (.Name y py) X.env (.ref L)) _ _ _
  refine wpAny_assign_Name (store_ok2 (v := V.ref L) I' hN hy (.inl hyl) rfl (fun s2 I2 ⟨a, sb, ha⟩ => ?_) (.inr hyl))
  obtain ⟨f0, f1, f2, f3, f4, f5⟩ := f
  have ne : C ≠ a := ha.elim (fun z => by rw [z]; exact f1) fun z e => f4 y a z e.symm
  exact ⟨m, hn.sameBut sb ne, fun h3 sb3 => ⟨_, H', I2.turned (t' := s2.toks) (fun b o hb e => (sb3.2 b hb).trans e) f0 f1 f3 f4 f5, q⟩⟩
end
end Cs
set_option maxHeartbeats 4000000
namespace Cs
open PySem PySem.Spec PyProof.Rows L2
section
variable {α β γ δ : Type} {W : Wd} {K : PySem.W.Frag} {ta tb tc : TE} {t : Ty α} {u : Ty β} {x x' : α} {y : β} {tt uu : TT} {ar ak : TA} {fs : List SF} {i : Nat} {E : XK} {ts us vs : TS} {D : Ends} {g : TG} {as : α → List (Nat × SF)} {wi : TI}
theorem Ev.xe (h : Ev W ta t x) : Evx W ta t fun y => y = x := h.x rfl
theorem evx_to {P : α → Prop} {P' : β → Prop} (h : Evx W ta t P) (e : ∀ x, P x → ∃ y, P' y ∧ ∀ H v, t.r H v x → u.r H v y) : Evx W ta u P' := fun σ H o Q q => h σ H o Q fun v x H' p g r => by
  obtain ⟨y, py, c⟩ := e x p
  exact q v y H' py g (c _ _ r)
theorem go_setx {P : α → Prop} (h : Evx W ta t P) (k : ∀ x, P x → Go (W.at i (t.is x)) us D) : Go W (tSeq (tAsg ta (gName i)) us) D := fun σ H o => h σ H o _ fun v x H1 p g r => k x p _ _ (g.ok.put r)
theorem go_set1x {P : α → Prop} (h : Evx W ta t P) (k : ∀ x, P x → ∀ σ H, Ok (W.at i (t.is x)) σ H → D.nx σ H) : Go W (tAsg ta (gName i)) D := fun σ H o => h σ H o _ fun v x H1 p g r => k x p _ _ (g.ok.put r)
theorem go_ifx {P : Bool → Prop} (h : Etx W tt P) (h1 : P true → Go W ts D) (h2 : P false → Go W us D) : Go W (tIfS tt ts us) D := fun σ H o => h σ H o _ fun b H1 p g => by
  cases b with
  | true => exact h1 p σ H1 g.ok
  | false => exact h2 p σ H1 g.ok
theorem go_ifrx {P : Bool → Prop} (h : Etx W tt P) (h1 : P true → Go W ts { D with nx := vs D }) (h2 : P false → Go W vs D) : Go W (tSeq (tIfS tt ts tNext) vs) D := go_ifx h h1 h2
/-- an if whose ends meet -/
theorem go_ifj {ι : Type} {P : Bool → Prop} (Wj : ι → Wd) (Pj : ι → Prop) (h : Etx W tt P) (h1 : P true → ∀ nx : L2.St → Hp → Prop, (∀ c, Pj c → ∀ σ H, Ok (Wj c) σ H → nx σ H) → Go W ts { D with nx := nx }) (h2 : P false → ∃ c, Pj c ∧ Wk W (Wj c)) (hk : ∀ c, Pj c → Go (Wj c) vs D) : Go W (tSeq (tIfS tt ts tNext) vs) D :=
  go_ifrx h (fun p => h1 p (vs D) fun c pc σ H o => hk c pc σ H o) fun p => by
    obtain ⟨c, pc, w⟩ := h2 p
    exact go_wk w (hk c pc)
theorem evx_ixL {xs : List α} {P : Int → Prop} {R : α → Prop} {t : Ty α} (h : Ev W ta (tLs K t) xs) (hb : Evx W tb tInt P) (e : ∀ n, P n → ∃ x, R x ∧ atI xs n = some x) : Evx W (tOp (rIxL K) ta tb) t R := fun σ H o Q q =>
  h σ H o _ fun v H1 g1 r1 => hb σ H1 g1.ok _ fun v2 n H2 p2 g2 r2 => by
    obtain ⟨p, vs, ev, s, al⟩ := (tLs K t).mono g2.up r1
    obtain ⟨x, rx, e⟩ := e n p2
    have : ∃ z, atI vs n = some z ∧ t.r (hid W.S H2) z x := by
      unfold atI at e ⊢
      rw [al.length]
      cases c : ixN xs.length n with
      | none => rw [c] at e; cases e
      | some k =>
        rw [c] at e
        exact al.get e
    obtain ⟨z, hz, rz⟩ := this
    exact ⟨p, vs, n, z, ev, r2, (SqL.of (hid_sub _ _ s)), hz, q z x H2 rx (g1.trans g2) rz⟩
/-! ### arguments of several answers -/
def Eax (W : Wd) (ta : TA) {α : Type} (F : α → List SF) (P : α → Prop) : Prop := ∀ σ H, Ok W σ H → ∀ Q : List V → Hp → Prop, (∀ vs c H', P c → Go1 W σ H H' → Fits (hid W.S H') (F c) vs → Q vs H') → ta σ H Q
theorem Ea.xe (h : Ea W ar fs) : Eax W ar (fun _ : Unit => fs) (fun _ => True) := fun σ H o Q q => h σ H o Q fun vs H' g f => q vs () H' trivial g f
theorem eax_consx {P : α → Prop} {F : β → List SF} {R : β → Prop} (ha : Evx W ta t P) (hr : Eax W ar F R) : Eax W (tCons ta ar) (fun c : α × β => t.is c.1 :: F c.2) (fun c => P c.1 ∧ R c.2) := fun σ H o Q q =>
  ha σ H o _ fun v x H1 p g1 r1 => hr σ H1 g1.ok _ fun vs c H2 pc g2 r2 => q (v :: vs) (x, c) H2 ⟨p, pc⟩ (g1.trans g2) ⟨t.mono g2.up r1, r2⟩
theorem eax_cons {F : β → List SF} {R : β → Prop} (ha : Ev W ta t x) (hr : Eax W ar F R) : Eax W (tCons ta ar) (fun c : β => t.is x :: F c) R := fun σ H o Q q =>
  ha σ H o _ fun v H1 g1 r1 => hr σ H1 g1.ok _ fun vs c H2 pc g2 r2 => q (v :: vs) c H2 pc (g1.trans g2) ⟨t.mono g2.up r1, r2⟩
/-- as ok_N, a def with defaults -/
theorem ok_ND {P : Program} {w : World} {mg : Str → Option Value} {base : Heap} {nm qual : Str} {st : Stmt} {f : Addr} {fd : FuncData} {N ps : List Str} {k : Nat} {C : α → List RS} {A : α → List SF} {wt : Ty β} {pre : α → Prop} {post : α → β → Prop} {dvs : List V} {kws : List (Str × V)}
    (F : FunD K nm qual (defArgs st) (defBody st) (defScope st) dvs kws f fd) (S : FnScope N ps (defScope st)) (hl : ∀ x, (A x).length = ps.length)
    (body : ∀ (cdv : Value) (A' : Around) (outer : List Env) (s : Shared) (H0 : Hp) (S : List Addr) (x : α) (Q : VK) (E : XK), Room k (A'.deeper (envOfC qual (defScope st) s.heap.objs.size f cdv)) → pre x → Rt (C x) S H0 wt (post x) Q →
      ∃ t, PSs (cxOf CX0 P w K mg base N qual (defScope st) f cdv A' outer s H0 E).nox (defBody st) t ∧ Go ⟨H0, fps (C x), S, C x, [], (A x).map some ++ List.replicate (N.length - ps.length) none⟩ t { nx := fun _ H' => Q .non H', rt := Q }) :
    FnOk P w K mg base CX0 (k + 1) f fd ps (spN C A wt pre post) := by
  refine F.ok S (fun vs H Q E h => ?_) (fun cdv A' outer s H vs Q E hr h => ?_)
  · obtain ⟨S', x, _, _, _, _, ft, _⟩ := h
    rw [ft.length, hl]
  · obtain ⟨S', x, al, nd, sub, cc, ft, hp, out⟩ := h
    obtain ⟨t, h1, h2⟩ := body cdv A' outer s H S' x Q E hr hp (fun v y H' => out v y H')
    refine ⟨t, h1.nox, h2 _ _ ⟨nd, fun a m => ⟨sub a m, .inl m⟩, cc, sub, al, Bt.refl, ?_, (fun f m => nomatch m), fun i f' q => ?_⟩⟩
    · show (L2.start N vs).length = ((A x).map some ++ List.replicate (N.length - ps.length) none).length
      unfold L2.start
      have e1 := ft.length
      have e2 := hl x
      simp only [List.length_append, List.length_map, List.length_replicate]
      omega
    · have q : ((A x).map some ++ List.replicate (N.length - ps.length) none)[i]? = some (some f') := q
      unfold L2.start
      by_cases l : i < (A x).length
      · rw [List.getElem?_append_left (by simpa using l), List.getElem?_map] at q
        cases c : (A x)[i]? with
        | none => rw [c] at q; cases q
        | some z =>
          rw [c] at q
          obtain rfl : z = f' := Option.some.inj (Option.some.inj q)
          obtain ⟨v, hv, hz⟩ := ft.get c
          exact ⟨v, by rw [List.getElem?_append_left (by simpa [ft.length] using l), List.getElem?_map, hv]; rfl, hz⟩
      · rw [List.getElem?_append_right (by simpa using l)] at q
        have := List.mem_of_getElem? q
        rw [List.mem_replicate] at this
        exact absurd this.2 (by simp)
/-- what the written part has of a def with defaults: it may be called with all or without them -/
def FunDG (K : PySem.W.Frag) (mg : Str → Option Value) (x : Str) (st : Stmt) (ps : List Str) (dvs : List V) : Prop :=
  ∃ (f : Addr) (fd : FuncData) (ds : List Value), FunD K x x (defArgs st) (defBody st) (defScope st) dvs [] f fd ∧ mg x = some (.ref f) ∧ PySem.W.keepIn K (.ref f) = true ∧ Binds K fd ps [] ∧ Binds K fd ps ds ∧ Vals dvs ds
theorem Cal.ofD {P : Program} {w : World} {mg : Str → Option Value} {base : Heap} {x : Str} {st : Stmt} {ps : List Str} {k : Nat} {sp : Sp} {dvs : List V} (F : FunDG K mg x st ps dvs) (h : ∀ {f : Addr} {fd : FuncData}, FunD K x x (defArgs st) (defBody st) (defScope st) dvs [] f fd → FnOk P w K mg base CX0 k f fd ps sp) : Cal P w K mg base k x ps sp ∧ CalD P w K mg base k x ps dvs sp := by
  obtain ⟨f, fd, ds, F, g, kp, b, bd, vd⟩ := F
  exact ⟨⟨f, fd, h F, g, kp, b⟩, ⟨f, fd, ds, h F, g, kp, bd, vd⟩⟩
theorem FunDG.mk {mg : Str → Option Value} {h : Heap} {x : Str} {st : Stmt} {ps : List Str} {dvs : List V} {f T : Addr} {od an dT : Option Addr} {sl slT : Array (Option Value)} {its : Array Value} {oc kV dc pm cd ct cT : Value} {nT : Nat} (n : Nat)
    (hb0 : ∀ (T : Addr) (kV doc pm : Value) (an : Option Addr) (cdv ct : Value) (us its : List Value), us.length = ps.length → its.length = dvs.length →
      ∃ k, bindArgs (PySem.W.fnOf x x (defArgs st) (defBody st) (defScope st) (.ref T) kV doc pm an cdv ct) ⟨us, []⟩ = seqItems? (.ref T) >>= k ∧ k (some its.toArray) = pure (ps.zip (us ++ its.drop dvs.length)))
    (hb1 : ∀ (T : Addr) (kV doc pm : Value) (an : Option Addr) (cdv ct : Value) (us its : List Value), us.length = n → its.length = dvs.length →
      ∃ k, bindArgs (PySem.W.fnOf x x (defArgs st) (defBody st) (defScope st) (.ref T) kV doc pm an cdv ct) ⟨us, []⟩ = seqItems? (.ref T) >>= k ∧ k (some its.toArray) = pure (ps.zip (us ++ its.drop 0)))
    (X : K.In h) (G : h.Ns mainGlobals mg)
    (a : PySem.W.nsIn K mainGlobals x = some (some (.ref f))) (l : K.lookup f = some ⟨oc, od, .func (PySem.W.fnOf x x (defArgs st) (defBody st) (defScope st) (.ref T) kV dc pm an cd ct), sl⟩) (c : PySem.W.codeIn K cd x = true) (k : PySem.W.keepIn K (.ref f) = true)
    (lT : K.lookup T = some ⟨cT, dT, .seq its nT, slT⟩) (hd : dvs ≠ []) (hv : Vals dvs its.toList) (hn : n + dvs.length = ps.length) : FunDG K mg x st ps dvs := by
  have F : FunD K x x (defArgs st) (defBody st) (defScope st) dvs [] f _ := ⟨⟨oc, od, .ref T, kV, dc, pm, an, cd, ct, sl, rfl, l, c, .inr ⟨hd, T, _, its.toList, nT, rfl, lT, rfl, hv⟩, .inl rfl⟩, k⟩
  obtain ⟨d0, v0, B0⟩ := F.binds1 (ps := ps) ps.length dvs.length hd (by omega) hb0
  obtain ⟨d1, v1, B1⟩ := F.binds1 (ps := ps) n 0 hd (by omega) hb1
  rw [List.drop_length] at v0
  cases v0
  exact ⟨f, _, d1, F, PySem.W.mg_of X G a, k, B0, B1, v1⟩
/-! ### new instances -/
def cIns (C dx : Addr) (known : List (Str × SF)) : CF := ⟨fun F o => ∃ fs, o = .ins C dx fs ∧ fs.length ≤ known.length ∧ FldAt F fs known, fun e ⟨fs, h, l, k⟩ => ⟨fs, h, l, fun n f m => by
  obtain ⟨v, h1, h2⟩ := k n f m
  exact ⟨v, h1, f.mono e h2⟩⟩⟩
/-- what `__init__` promises: the new instance has these attributes -/
def spI (C : Addr) (A : α → List SF) (pre : α → Prop) (flds : α → List (Str × SF)) : Sp := fun vs H Q _ => ∃ (S : List Addr) (x : α) (a dx : Addr) (ws : List V), vs = .ref a :: ws ∧ a ∈ S ∧ (∀ b ∈ S, H b ≠ none) ∧ H a = some (.ins C dx []) ∧ Fits (hid S H) (A x) ws ∧ pre x ∧
  ∀ H' fs, Bt [a] H H' → H' a = some (.ins C dx fs) → FldAt (hid S H') fs (flds x) → Q .non H'
theorem ok_I {P : Program} {w : World} {mg : Str → Option Value} {base : Heap} {nm qual : Str} {st : Stmt} {f : Addr} {fd : FuncData} {N ps : List Str} {k : Nat} {C : Addr} {A : α → List SF} {pre : α → Prop} {flds : α → List (Str × SF)} {p0 : Str}
    (F : Fun K nm qual st f fd) (S : FnScope N (p0 :: ps) (defScope st)) (hl : ∀ x, (A x).length = ps.length)
    (body : ∀ (cdv : Value) (A' : Around) (outer : List Env) (s : Shared) (H0 : Hp) (S : List Addr) (x : α) (a dx : Addr) (Q : VK) (E : XK), Room k (A'.deeper (envOfC qual (defScope st) s.heap.objs.size f cdv)) → pre x → a ∈ S →
      ∃ t, PSs (cxOf CX0 P w K mg base N qual (defScope st) f cdv A' outer s H0 E).nox (defBody st) t ∧ ∀ nx : L2.St → Hp → Prop, (∀ known F G σ H, Ok ⟨H0, [a], S, [cell a (cIns C dx known)], F, G⟩ σ H → (∀ p, p ∈ flds x → p ∈ known) → nx σ H) → Go ⟨H0, [a], S, [cell a (cIns C dx [])], [], some (tRf.is a) :: ((A x).map some ++ List.replicate (N.length - (ps.length + 1)) none)⟩ t { nx := nx, rt := Q }) :
    FnOk P w K mg base CX0 (k + 1) f fd (p0 :: ps) (spI C A pre flds) := by
  refine F.ok S (fun vs H Q E h => ?_) (fun cdv A' outer s H vs Q E hr h => ?_)
  · obtain ⟨S', x, a, dx, ws, rfl, _, _, _, ft, _⟩ := h
    show ws.length + 1 = ps.length + 1
    rw [ft.length, hl]
  · obtain ⟨S', x, a, dx, ws, rfl, am, al, ha, ft, hp, out⟩ := h
    obtain ⟨t, h1, h2⟩ := body cdv A' outer s H S' x a dx Q E hr hp am
    have fa : fps [cell a (cIns C dx ([] : List (Str × SF)))] = [a] := rfl
    refine ⟨t, h1, h2 _ (fun known F' G' σ H' o sub => ?_) _ _ ⟨by rw [fa]; simp, fun b m => ?_, fun r m => ?_, fun b m => ?_, al, Bt.refl, ?_, (fun f m => nomatch m), fun i f' q => ?_⟩⟩
    · obtain ⟨ob, hob, fs, rfl, _, hf⟩ := o.at_ (cell a (cIns C dx known)) (List.mem_cons_self ..)
      exact out H' fs o.bt hob fun n f m => hf n f (sub _ m)
    · rw [fa] at m
      rw [List.mem_singleton.mp m]
      exact ⟨am, .inl (List.mem_cons_self ..)⟩
    · rw [List.mem_singleton.mp m]
      exact ⟨_, ha, [], rfl, Nat.le_refl _, fun n f z => nomatch z⟩
    · rw [List.mem_singleton.mp m]
      exact am
    · show (L2.start N (.ref a :: ws)).length = (some (tRf.is a) :: ((A x).map some ++ List.replicate (N.length - (ps.length + 1)) none)).length
      unfold L2.start
      have e1 := ft.length
      have e2 := hl x
      simp only [List.length_append, List.length_map, List.length_replicate, List.length_cons]
      omega
    · have q : (some (tRf.is a) :: ((A x).map some ++ List.replicate (N.length - (ps.length + 1)) none))[i]? = some (some f') := q
      unfold L2.start
      cases i with
      | zero =>
        obtain rfl : tRf.is a = f' := by simpa using q
        exact ⟨.ref a, rfl, rfl⟩
      | succ i =>
        have q : ((A x).map some ++ List.replicate (N.length - (ps.length + 1)) none)[i]? = some (some f') := by simpa using q
        rw [List.map_cons, List.cons_append, List.getElem?_cons_succ]
        by_cases l : i < (A x).length
        · rw [List.getElem?_append_left (by simpa using l), List.getElem?_map] at q
          cases c : (A x)[i]? with
          | none => rw [c] at q; cases q
          | some z =>
            rw [c] at q
            obtain rfl : z = f' := Option.some.inj (Option.some.inj q)
            obtain ⟨v, hv, hz⟩ := ft.get c
            exact ⟨v, by rw [List.getElem?_append_left (by simpa [ft.length] using l), List.getElem?_map, hv]; rfl, hz⟩
        · rw [List.getElem?_append_right (by simpa using l)] at q
          have := List.mem_of_getElem? q
          rw [List.mem_replicate] at this
          exact absurd this.2 (by simp)
/-- self.n = e -/
theorem fld_write {C dx a : Addr} {n : Str} {known : List (Str × SF)} {R : List RS} {s : Nat} {nx : L2.St → Hp → Prop} (hs : W.G[s]? = some (some (tRf.is a))) (hL : W.L = cell a (cIns C dx known) :: R) (h : Ev W ta t x) (cl : Cls K C) (na : NoAttr K C n) (hn : (known.map (·.1)).contains n = false) (hl : known.length < 900)
    (k : ∀ σ H, Ok { W with L := cell a (cIns C dx ((n, t.is x) :: known)) :: R } σ H → nx σ H) (hD : D.nx = nx) : Go W (sFld K (tVar s) ta n) D := fun σ H o => h σ H o _ fun v H1 g r => by
  obtain ⟨w, h1, rfl⟩ := g.ok.slots s _ hs
  obtain ⟨ob, hob, fs, rfl, hlen, hf⟩ := g.ok.at_ (cell a (cIns C dx known)) (by rw [hL]; exact List.mem_cons_self ..)
  refine ⟨.ref a, h1, a, C, dx, fs, rfl, hob, cl, na, by omega, ?_⟩
  rw [hD]
  refine k _ _ (g.ok.write (ψ := cIns C dx ((n, t.is x) :: known)) hL ⟨_, rfl, Nat.le_trans (length_putF n v fs) (by rw [List.length_cons]; omega), fun m f z => ?_⟩).ok
  rw [lookup_putF]
  rcases List.mem_cons.mp z with z | z
  · obtain ⟨rfl, rfl⟩ := Prod.mk.inj z
    exact ⟨v, if_pos rfl, r⟩
  · have ne : m ≠ n := fun e => by
      have : (known.map (·.1)).contains n = true := by
        rw [List.contains_eq_mem, decide_eq_true_eq]
        exact List.mem_map.mpr ⟨(m, f), z, e⟩
      rw [hn] at this; cases this
    obtain ⟨w, q1, q2⟩ := hf m f z
    exact ⟨w, by rw [if_neg ne]; exact q1, q2⟩
theorem go_fldS {C dx a : Addr} {n : Str} {known : List (Str × SF)} {R : List RS} {s : Nat} (hs : W.G[s]? = some (some (tRf.is a))) (hL : W.L = cell a (cIns C dx known) :: R) (h : Ev W ta t x) (cl : Cls K C) (na : NoAttr K C n) (k : Go { W with L := cell a (cIns C dx ((n, t.is x) :: known)) :: R } us D) (hn : (known.map (·.1)).contains n = false := by rfl) (hl : known.length < 900 := by simp)
    : Go W (tSeq (sFld K (tVar s) ta n) us) D := fun σ H o => fld_write hs hL h cl na hn hl (fun σ' H' o' => k σ' H' o') rfl σ H o
theorem go_fldS1 {C dx a : Addr} {n : Str} {known : List (Str × SF)} {R : List RS} {s : Nat} (hs : W.G[s]? = some (some (tRf.is a))) (hL : W.L = cell a (cIns C dx known) :: R) (h : Ev W ta t x) (cl : Cls K C) (na : NoAttr K C n) (k : ∀ σ H, Ok { W with L := cell a (cIns C dx ((n, t.is x) :: known)) :: R } σ H → D.nx σ H) (hn : (known.map (·.1)).contains n = false := by rfl) (hl : known.length < 900 := by simp)
    : Go W (sFld K (tVar s) ta n) D := fld_write hs hL h cl na hn hl k rfl
/-- C(e, .., k = v, ..) -/
theorem evx_makeK {n m : Nat} {C : Addr} {A : γ → List SF} {pre : γ → Prop} {flds : γ → List (Str × SF)} {gV : List V → List V → List V} {F1 : α → List SF} {F2 : β → List SF} {P1 : α → Prop} {P2 : β → Prop} (z : α → β → γ)
    (ha : Eax W ar F1 P1) (hk : Eax W ak F2 P2) (hn : ∀ c, (F1 c).length = n) (hm : ∀ c, (F2 c).length = m) (hg : ∀ H v c d us ws, Fits H (F1 c) us → Fits H (F2 d) ws → ∃ os, gV (v :: us) ws = v :: os ∧ Fits H (A (z c d)) os) (hp : ∀ c d, P1 c → P2 d → pre (z c d)) :
    Evx W (tMakeK C n m (spI C A pre flds) gV E ar ak) (tOb C flds) (fun y => ∃ c d, P1 c ∧ P2 d ∧ y = z c d) := fun σ H o Q q =>
  ha σ H o _ fun us c H1 pc g1 f1 => hk σ H1 g1.ok _ fun ws d H2 pd g2 f2 => by
    refine ⟨by rw [f1.length, hn], by rw [f2.length, hm], fun a dx na nd ne => ?_⟩
    obtain ⟨os, e, ft⟩ := hg _ (.ref a) c d us ws (f1.mono g2.up) f2
    rw [e]
    have nd' : (upd H2 dx (.own a)) a = none := by rw [upd_ne (Ne.symm ne)]; exact na
    have s1 : Same H2 (upd H2 dx (.own a)) := Same.new nd
    have s2 : Same H2 (upd (upd H2 dx (.own a)) a (.ins C dx [])) := s1.trans (Same.new nd')
    have off : a ∉ W.S := g2.ok.off na
    have h3 : hid (a :: W.S) (upd (upd H2 dx (.own a)) a (.ins C dx [])) = hid (a :: W.S) (upd H2 dx (.own a)) := hid_upd (List.mem_cons_self ..)
    have up1 : Same (hid W.S H2) (hid (a :: W.S) (upd (upd H2 dx (.own a)) a (.ins C dx []))) := by
      rw [h3]
      exact Bt.hid (M := []) (N := [a]) (Bt.of s1) (fun b m => nomatch m) (fun b m => .inr (by rw [List.mem_singleton.mp m]; exact na))
    refine ⟨a :: W.S, z c d, a, dx, os, rfl, List.mem_cons_self .., fun b m => ?_, upd_same, ft.mono up1, hp c d pc pd, fun H' fs bt hf fl => ?_⟩
    · rcases List.mem_cons.mp m with m | m
      · rw [m, upd_same]; simp
      · intro z
        have := g2.ok.al b m
        cases q : H2 b with
        | none => exact this q
        | some ob => rw [s2 b ob q] at z; cases z
    · refine ⟨rfl, ?_⟩
      have e2 : Same H2 H' := fun b ob q => bt b ob (fun z => by rw [List.mem_singleton.mp z, na] at q; cases q) (s2 b ob q)
      refine q _ _ H' ⟨c, d, pc, pd, rfl⟩ ((g1.trans g2).trans (g2.ok.go e2)) ⟨a, dx, fs, rfl, by rw [hid_of off]; exact hf, fun nm f mm => ?_⟩
      obtain ⟨v, q1, q2⟩ := fl nm f mm
      exact ⟨v, q1, f.mono (hid_less fun b z => List.mem_cons_of_mem _ z) q2⟩
/-! ### lists that grow, of several answers -/
theorem go_ms (k : (∀ a, a ∈ W.M → a ∈ W.S) → Go W ts D) : Go W ts D := fun σ H o => k o.ms σ H o
theorem go_newN {xs : List α} (h : El W ar t xs) (hl : xs.length ≤ sizeLine := by decide) (k : ∀ p, p ∉ W.S → Go ⟨W.H0, W.M, p :: W.S, cell p (cLs t xs) :: W.L, W.F, W.G.set i (some (tRf.is p))⟩ us D) : Go W (tSeq (tAsg (tLst ar) (gName i)) us) D := fun σ H o =>
  h σ H o _ fun vs H1 g1 r1 => ⟨by rw [r1.length]; exact hl, fun p np => k p (g1.ok.off np) _ _ (Ok.put (i := i) (f := tRf.is p) (g1.ok.cell (ψ := cLs t xs) np ⟨vs, rfl, r1⟩).1 rfl)⟩
theorem go_appx {p : Addr} {xs : List α} {R : List RS} {P : α → Prop} (hp : W.G[i]? = some (some (tRf.is p))) (hL : W.L.Perm (cell p (cLs t xs) :: R)) (ha : Evx W ta t P) (hl : xs.length < sizeLine) (k : ∀ x, P x → Go { W with L := cell p (cLs t (xs ++ [x])) :: R } us D) :
    Go W (tSeq (tDrop (tBM K "list" rAppend (tVar i) (tCons ta tNil))) us) D := fun σ H o => by
  obtain ⟨v, h1, h2⟩ := o.slots i _ hp
  obtain rfl : v = .ref p := h2
  have mem : cell p (cLs t xs) ∈ W.L := hL.mem_iff.mpr (List.mem_cons_self ..)
  obtain ⟨ob, hob, vs, rfl, _⟩ := o.at_ _ mem
  refine ⟨.ref p, h1, .inl ⟨rfl, vs, SqL.of hob⟩, ?_⟩
  refine ha σ H o _ fun y x H1 px g1 ry => ?_
  obtain ⟨ob, hob, ws, rfl, al⟩ := g1.ok.at_ _ mem
  exact ⟨p, ws, y, rfl, rfl, hob, by rw [al.length]; exact hl, k x px _ _ ((g1.ok.perm hL).write (ψ := cLs t (xs ++ [x])) rfl ⟨_, rfl, al.app (ws := [y]) (ys := [x]) ⟨ry, trivial⟩⟩).ok⟩
theorem go_app1x {p : Addr} {xs : List α} {R : List RS} {P : α → Prop} (hp : W.G[i]? = some (some (tRf.is p))) (hL : W.L.Perm (cell p (cLs t xs) :: R)) (ha : Evx W ta t P) (hl : xs.length < sizeLine) (k : ∀ x, P x → ∀ σ H, Ok { W with L := cell p (cLs t (xs ++ [x])) :: R } σ H → D.nx σ H) :
    Go W (tDrop (tBM K "list" rAppend (tVar i) (tCons ta tNil))) D := go_appx (us := fun D σ H => D.nx σ H) hp hL ha hl k
/-! ### walks of several answers -/
def Ivx {α : Type} (W : Wd) (wi : TI) (t : Ty α) (X : List α → Prop) : Prop := ∀ σ H, Ok W σ H → ∀ R : It → Hp → Prop, (∀ xs J H1 f, X xs → Go1 W σ H H1 → f.p (hid W.S H1) → Wks J f t xs → R J H1) → wi σ H R
theorem ivx_range1 {P : Int → Prop} (h : Evx W ta tInt P) (h1 : ∀ n, P n → -(2 ^ 62) ≤ n ∧ n < 2 ^ 62) : Ivx W (iRng1 (tCons ta tNil)) tInt (fun xs => ∃ n : Int, P n ∧ xs = (List.range n.toNat).map fun (i : Nat) => (i : Int)) := fun σ H o R q =>
  evx_range1 (R' := fun _ => True) o h h1 fun n J H1 f p g z wk => q _ J H1 f ⟨n, p, rfl⟩ g z wk
theorem go_forx {ι : Type} {X : List α → Prop} (h : Ivx W wi t X) (tg : Tgt g t as) (J : Nat → ι → List RS × List (Option SF)) (Pv : Nat → ι → Prop) (c0 : ι) (p0 : Pv 0 c0) (w0 : Wk W { W with L := (J 0 c0).1, G := (J 0 c0).2 })
    (hs : ∀ xs k c x (f : FF), X xs → xs[k]? = some x → Pv k c → Go (Wd.puts ⟨W.H0, W.M, W.S, (J k c).1, f :: W.F, (J k c).2⟩ (as x)) ts
      { D with nx := fun σ H => ∃ c', Pv (k + 1) c' ∧ Ok ⟨W.H0, W.M, W.S, (J (k + 1) c').1, f :: W.F, (J (k + 1) c').2⟩ σ H, ct := fun σ H => ∃ c', Pv (k + 1) c' ∧ Ok ⟨W.H0, W.M, W.S, (J (k + 1) c').1, f :: W.F, (J (k + 1) c').2⟩ σ H, bk := D.nx })
    (hd : ∀ xs c, X xs → Pv xs.length c → ∀ σ H, Ok { W with L := (J xs.length c).1, G := (J xs.length c).2 } σ H → D.nx σ H) :
    Go W (tFor wi g ts) D := fun σ H o => h σ H o _ fun xs Ji H1 f px g1 fp wk =>
  for_core wk tg (fun k c => ⟨W.H0, W.M, W.S, (J k c).1, f :: W.F, (J k c).2⟩) Pv (fun _ _ => rfl) ⟨c0, p0, Ok.know (w0 _ _ g1.ok) fp⟩ (fun k c x hx pc => hs xs k c x f px hx pc) fun c pc σ' H' o' => hd xs c px pc σ' H'
    ⟨o'.nod, o'.own, o'.at_, o'.ms, o'.al, o'.bt, o'.len, fun q m => o'.facts q (List.mem_cons_of_mem _ m), o'.slots⟩
/-! ### lists or tuples -/
def tLT (K : PySem.W.Frag) {α : Type} (t : Ty α) : Ty (List α) := ⟨fun H v xs => ∃ p vs, v = .ref p ∧ (SqL K H p vs ∨ SqT K H p vs) ∧ All2 (t.r H) vs xs, fun e ⟨p, vs, h, g, h1⟩ => ⟨p, vs, h, g.imp (fun z => e.seq z) (fun z => sqT_mono e z), All2.mono (fun _ _ => t.mono e) h1⟩⟩
theorem ev_LT {xs : List α} (h : Ev W ta (tLs K t) xs) : Ev W ta (tLT K t) xs := ev_to h fun _ _ ⟨p, vs, e, s, al⟩ => ⟨p, vs, e, .inl (SqL.of s), al⟩
theorem lt_hid {H : Hp} {S : List Addr} {p : Addr} {vs : List V} (h : SqL K (hid S H) p vs ∨ SqT K (hid S H) p vs) : SqL K H p vs ∨ SqT K H p vs := h.imp (fun z => hid_sub.seq z) (fun z => sqT_mono hid_sub z)
theorem ev_inT {z : Str} {xs : List Str} (ha : Ev W ta tSt z) (hb : Ev W tb (tLT K tSt) xs) : Ev W (tOp (rIn K false) ta tb) tBl (decide (z ∈ xs)) := fun σ H o Q q =>
  ha σ H o _ fun v H1 g1 r1 => hb σ H1 g1.ok _ fun v2 H2 g2 ⟨p, vs, e, s, al⟩ => ⟨p, vs, e, lt_hid s, by rw [show v = .str z from r1]; rfl, flat_str al, q _ H2 (g1.trans g2) (by rw [show v = .str z from r1]; show V.bl (inV (.str z) vs) = _; rw [inV_str al])⟩
theorem ev_niT {z : Str} {xs : List Str} (ha : Ev W ta tSt z) (hb : Ev W tb (tLT K tSt) xs) : Ev W (tOp (rIn K true) ta tb) tBl (!decide (z ∈ xs)) := fun σ H o Q q =>
  ha σ H o _ fun v H1 g1 r1 => hb σ H1 g1.ok _ fun v2 H2 g2 ⟨p, vs, e, s, al⟩ => ⟨p, vs, e, lt_hid s, by rw [show v = .str z from r1]; rfl, flat_str al, q _ H2 (g1.trans g2) (by rw [show v = .str z from r1]; show V.bl (!inV (.str z) vs) = _; rw [inV_str al])⟩
theorem el_starT {xs ys : List α} (ha : Ev W ta (tLT K t) xs) (hr : El W ar t ys) : El W (StX.tStar K ta ar) t (xs ++ ys) := fun σ H o Q q =>
  ha σ H o _ fun v H1 g1 ⟨p, vs, e, s, al⟩ => ⟨p, vs, e, (lt_hid s).symm, hr σ H1 g1.ok _ fun ws H2 g2 r2 => q _ _ (g1.trans g2) ((All2.mono (fun _ _ => t.mono g2.up) al).app r2)⟩
/-! ### calls that leave arguments out; comparisons of several answers -/
theorem Fits.append {H : Hp} : ∀ {fs gs : List SF} {us ws : List V}, Fits H fs us → Fits H gs ws → Fits H (fs ++ gs) (us ++ ws)
  | [], _, [], _, _, h => h
  | _ :: _, _, _ :: _, _, ⟨a, b⟩, h => ⟨a, Fits.append b h⟩
  | [], _, _ :: _, _, h, _ => h.elim
  | _ :: _, _, [], _, h, _ => h.elim
theorem evx_callD {C : γ → List RS} {A : γ → List SF} {w : Ty β} {pre : γ → Prop} {post : γ → β → Prop} {z : γ} {ds : List SF} {dvs : List V} (h : Ea W ar fs) (hd : ∀ H, Fits H ds dvs) (e : A z = fs ++ ds) (hp : pre z) (hC : (C z).Sublist W.L := by first | exact List.nil_sublist _ | exact List.Sublist.refl _ | exact List.singleton_sublist.mpr (by simp) | simp) :
    Evx W (tCall (spN C A w pre post) dvs E ar) w (post z) := fun σ H o Q q => h σ H o _ fun vs H1 g1 r1 => by
  have sub : ∀ a, a ∈ fps (C z) → a ∈ W.S := fun a m => by
    obtain ⟨r, m1, m2⟩ := of_fps m
    exact (g1.ok.own a (mem_fps (hC.subset m1) m2)).1
  refine ⟨W.S, z, g1.ok.al, ?_, sub, fun r m => g1.ok.at_ r (hC.subset m), by rw [e]; exact Fits.append r1 (hd _), hp, fun v y H2 py b al c r => ?_⟩
  · exact (fps_sub hC).nodup g1.ok.nod
  · exact q v y H2 py (g1.trans (g1.ok.after (fun r m => hC.subset m) b al c)) r
theorem evx_cat {xs : List α} {P : List α → Prop} (ha : Ev W ta (tLs K t) xs) (hb : Evx W tb (tLs K t) P) (hl : ∀ ys, P ys → xs.length + ys.length ≤ sizeLine) : Evx W (tOp rCat ta tb) (tLs K t) (fun z => ∃ ys, P ys ∧ z = xs ++ ys) := fun σ H o Q q =>
  ha σ H o _ fun v H1 g1 r1 => hb σ H1 g1.ok _ fun v2 ys H2 py g2 ⟨p2, vs2, e2, s2, al2⟩ => by
    obtain ⟨p1, vs1, e1, s1, al1⟩ := (tLs K t).mono g2.up r1
    exact ⟨p1, p2, vs1, vs2, e1, e2, hid_sub _ _ s1, hid_sub _ _ s2, by rw [al1.length, al2.length]; exact hl ys py, fun p np => q _ _ _ ⟨ys, py, rfl⟩ ((g1.trans g2).trans (g2.ok.new np))
      ⟨p, vs1 ++ vs2, rfl, (by rw [hid_of (g2.ok.off np)]; exact upd_same), All2.mono (fun _ _ => t.mono (g2.ok.new np).up) (al1.app al2)⟩⟩
theorem etx_of {P : Bool → Prop} (h : Evx W ta tBl P) : Etx W (tTest ta) P := fun σ H o Q q => h σ H o _ fun v b H1 p g1 r1 => ⟨b, r1, q b H1 p g1⟩
theorem evx_neD [DecidableEq α] {P : α → Prop} (e : Eqt K t) (ha : Evx W ta t P) (hb : Ev W tb t x') (l1 : ∀ x, P x → (e.d x).canLay0 = true) (l2 : (e.d x').canLay0 = true) (hn : e.n ≤ 64 := by decide) : Evx W (tOp (rNeD K) ta tb) tBl (fun b => ∃ x, P x ∧ b = !decide (x = x')) := fun σ H o Q q =>
  ha σ H o _ fun v x H1 px g1 r1 => hb σ H1 g1.ok _ fun v2 H2 g2 r2 => ⟨e.d x, e.d x', dp_mono hid_sub (e.dp (t.mono g2.up r1)), dp_mono hid_sub (e.dp r2), e.shape hn (l1 x px), e.shape hn l2, by rw [e.dec]; exact q _ _ H2 ⟨x, px, rfl⟩ (g1.trans g2) rfl⟩
end
end Cs
namespace Cs
open PySem PySem.Spec PyProof.Rows L2
theorem lay_st {K : PySem.W.Frag} {x : Str} (h : PyData.strOk x = true) : ((eqSt (K := K)).d x).canLay0 = true := by
  show (PyData.str x).canLay0 = true
  simp only [PyData.canLay0]
  exact h
/-- what a law is asked, and what it answers -/
abbrev spLawT (K : PySem.W.Frag) : Sp := spP (fun ns : List Int => [(tSc K).is ns]) tBl (fun _ => True) (fun _ => true)
theorem spL_in {K : PySem.W.Frag} {H : Hp} {a : Addr} {ns : List Int} {Q : VK} {E : XK} (hS : SqL K H a (ns.map V.int)) (q : ∀ H', Q (.bl true) H') : spLawT K [.ref a] H Q E :=
  ⟨[], ns, (fun a m => nomatch m), List.nodup_nil, (fun a m => by cases m), (fun r m => by cases m), ⟨⟨a, rfl, (show Same H (hid [] H) from fun b o h => by rw [hid_of List.not_mem_nil]; exact h).seq hS⟩, trivial⟩, trivial, fun v y H' py _ _ _ r => by
    rw [show v = .bl y from r, show y = true from py]
    exact q H'⟩
theorem lt8 {m : Int} (h : m.natAbs < 65536) : m.natAbs < 2 ^ 8000 := Nat.lt_of_lt_of_le h (Nat.pow_le_pow_right (n := 2) (i := 16) (by decide) (by decide))
end Cs
namespace Cs
open PySem PySem.Spec PyProof.Rows L2
/-! ### keywords are bound -/
theorem s_pb {α β : Type} (a : α) (f : α → Sem β) : (pure a >>= f) = f a := rfl
theorem forIn_all {α σ : Type} {body : α → σ → Sem (ForInStep σ)} (st : List α → σ) : ∀ (l pre : List α), (∀ p x q, pre ++ l = p ++ x :: q → body x (st p) = pure (.yield (st (p ++ [x])))) → forIn l (st pre) body = pure (st (pre ++ l))
  | [], pre, _ => by rw [List.append_nil]; rfl
  | x :: l, pre, h => by
    rw [List.forIn_cons, h pre x l rfl, s_pb]
    show forIn l (st (pre ++ [x])) body = _
    rw [forIn_all st l (pre ++ [x]) fun p y q e => h p y q (by rw [← e]; simp)]
    simp
theorem forIn_alls {α σ : Type} {body : α → σ → Sem (ForInStep σ)} (st : List α → σ) (l : List α) {s : σ} (e : st [] = s) (h : ∀ p x q, l = p ++ x :: q → body x (st p) = pure (.yield (st (p ++ [x])))) : forIn l s body = pure (st l) := by
  subst e
  have := forIn_all st l [] (body := body) (by simpa using h)
  simpa using this
theorem filterMap_eq {α β : Type} {f g : α → Option β} : ∀ {l : List α}, (∀ x ∈ l, f x = g x) → l.filterMap f = l.filterMap g
  | [], _ => rfl
  | x :: l, h => by rw [List.filterMap_cons, List.filterMap_cons, h x (List.mem_cons_self ..), filterMap_eq fun y m => h y (List.mem_cons_of_mem _ m)]
theorem forIn_id {α σ : Type} {body : α → σ → Sem (ForInStep σ)} {s : σ} {l : List α} (h : ∀ x ∈ l, body x s = pure (.yield s)) : forIn l s body = pure s := forIn_all (fun _ => s) l [] fun p x q e => h x (by rw [List.nil_append] at e; rw [e]; simp)
theorem zip_lookup : ∀ {ns : List Str} {us : List Value} {n : Str}, ns.length = us.length → n ∈ ns → ((ns.zip us).lookup n).isSome = true
  | [], _, _, _, h => by cases h
  | m :: ns, [], _, e, _ => by cases e
  | m :: ns, u :: us, n, e, h => by
    rw [List.zip_cons_cons, List.lookup_cons]
    by_cases q : n = m
    · subst q; simp
    · have : (n == m) = false := by simpa using q
      rw [this]
      rcases List.mem_cons.mp h with h | h
      · exact absurd h q
      · exact zip_lookup (by simpa using e) h
theorem zip_lookup0 : ∀ {ns : List Str} {us : List Value} {n : Str}, n ∉ ns → (ns.zip us).lookup n = none
  | [], _, _, _ => by simp
  | m :: ns, [], _, _ => by simp
  | m :: ns, u :: us, n, h => by
    rw [List.zip_cons_cons, List.lookup_cons]
    have : (n == m) = false := by simpa using (fun q : n = m => h (q ▸ List.mem_cons_self ..))
    rw [this]
    exact zip_lookup0 fun z => h (List.mem_cons_of_mem _ z)
theorem zip_binds : ∀ {ns : List Str} {us : List Value}, ns.length = us.length → ns.Nodup → (ns.filterMap fun n => ((ns.zip us).lookup n).map fun v => (n, v)) = ns.zip us
  | [], [], _, _ => rfl
  | [], _ :: _, e, _ => by cases e
  | _ :: _, [], e, _ => by cases e
  | m :: ns, u :: us, e, nd => by
    rw [List.nodup_cons] at nd
    rw [List.zip_cons_cons, List.filterMap_cons, List.lookup_cons]
    simp only [beq_self_eq_true]
    show (m, u) :: _ = _
    congr 1
    refine Eq.trans (filterMap_eq fun n hn => ?_) (zip_binds (by simpa using e) nd.2)
    rw [List.lookup_cons]
    have : (n == m) = false := by simpa using (fun q : n = m => nd.1 (q ▸ hn))
    rw [this]
theorem bind_kw {fd : FuncData} {N Kn : List Str} {us ws : List Value} (h0 : fd.params.posonlyargs = []) (h1 : fd.params.args.map (·.arg) = N) (h2 : fd.params.kwonlyargs.map (·.arg) = Kn) (h3 : fd.params.vararg = none) (h4 : fd.params.kwarg = none) (h5 : fd.defaults = .none) (nd : (N ++ Kn).Nodup) (l1 : us.length = N.length) (l2 : ws.length = Kn.length) :
    bindArgs fd ⟨us, Kn.zip ws⟩ = pure ((N ++ Kn).zip (us ++ ws)) := by
  have ez : N.zip us ++ Kn.zip ws = (N ++ Kn).zip (us ++ ws) := (List.zip_append l1.symm).symm
  have lz : (N ++ Kn).length = (us ++ ws).length := by simp [l1, l2]
  have ndd := List.nodup_append.mp nd
  unfold bindArgs
  simp only [h0, h1, h2, h3, h4, h5, List.map_nil, List.nil_append]
  rw [forIn_alls (fun pre => (N.zip us ++ pre, ([] : List (Str × Value)))) (Kn.zip ws) (by simp) ?_]
  · rw [s_pb, show seqItems? Value.none = pure none from rfl, s_pb, if_neg (by simp [l1])]
    simp only [ez]
    rw [if_neg ?_]
    · have ed : (List.drop ((((none : Option (Array Value)).getD #[]).toList).length - N.length) (((none : Option (Array Value)).getD #[]).toList)) = [] := by simp
      rw [ed, List.zip_nil_right]
      rw [show (forIn ([] : List (Str × Value)) ((N ++ Kn).zip (us ++ ws)) fun x s => if (List.lookup x.fst s).isNone = true then (pure (ForInStep.yield (s ++ [(x.fst, x.snd)])) : Sem _) else pure (ForInStep.yield s)) = pure ((N ++ Kn).zip (us ++ ws)) from rfl, s_pb]
      rw [forIn_id (l := Kn) (fun n hn => ?_), s_pb, if_neg (by simp)]
      · show pure _ = _
        congr 1
        exact zip_binds lz nd
      · rw [if_neg (by
          have := zip_lookup lz (List.mem_append_right N hn)
          simp only [Option.isNone_iff_eq_none]
          intro z
          rw [z] at this
          cases this)]
    · have : (List.filter (fun n => (List.lookup n ((N ++ Kn).zip (us ++ ws))).isNone) (List.take (N.length - (List.drop ((((none : Option (Array Value)).getD #[]).toList).length - N.length) (((none : Option (Array Value)).getD #[]).toList)).length) N)) = [] := List.filter_eq_nil_iff.mpr fun n hn => by
        have := zip_lookup lz (List.mem_append_left Kn (List.mem_of_mem_take hn))
        simp only [Option.isNone_iff_eq_none]
        intro z
        rw [z] at this
        cases this
      rw [this]
      simp
  · intro p x q e
    have ek : Kn = p.map (·.1) ++ x.1 :: q.map (·.1) := by
      have := congrArg (List.map (·.1)) e
      rw [List.map_append, List.map_cons] at this
      rw [← this, List.map_fst_zip (by omega)]
    have hx : x.1 ∈ Kn := by rw [ek]; simp
    have h1 : x.1 ∉ N := fun z => ndd.2.2 _ z _ hx rfl
    have h2 : x.1 ∉ p.map (·.1) := fun z => by
      have := ndd.2.1
      rw [ek, List.nodup_append] at this
      exact this.2.2 _ z _ (List.mem_cons_self ..) rfl
    have h3 : List.lookup x.1 (N.zip us ++ p) = none := by
      rw [List.lookup_append, zip_lookup0 h1]
      simp only [Option.none_or]
      rw [List.lookup_eq_none_iff]
      intro y my
      simp only [bne_iff_ne, ne_eq, beq_eq_false_iff_ne]
      exact fun z => h2 (List.mem_map.mpr ⟨y, my, z.symm⟩)
    rw [if_pos (by simp [hx]), if_neg (by simp [h3])]
    simp
end Cs
set_option maxHeartbeats 4000000
namespace Cs
open PySem PySem.Spec PyProof.Rows L2
/-! ### several clauses, with and without names -/
/-- the ends of a named clause's suite: its name goes -/
def goneE (D : Ends) (i : Nat) : Ends := ⟨fun σ H => D.nx (σ.set i none) H, D.rt, fun σ H => D.bk (σ.set i none) H, fun σ H => D.ct (σ.set i none) H⟩
/-- a clause: its class, the slot of its name (if it has one), its suite -/
structure Cla where
  c : Value
  i : Option Nat
  ts : Addr → Value → Option Addr → TS
def Cla.go (q : Cla) (D : Ends) (cls : Value) (d : Option Addr) (a : Addr) (σ : L2.St) (H : Hp) : Prop := match q.i with
  | none => q.ts a cls d D σ H
  | some i => q.ts a cls d (goneE D i) (σ.set i (some (.ref a))) H
/-- what the clauses wish, one behind the other -/
def wCla (K : PySem.W.Frag) (Wout : WX) (D : Ends) : List Cla → WX
  | [] => Wout
  | q :: r => fun cls d σ H => ∃ hit, PySem.W.exmOne K cls q.c = some hit ∧ (hit = true → ∀ a, H a = none → q.go D cls d a σ H) ∧ (hit = false → wCla K Wout D r cls d σ H)
abbrev SuiteOk (X : Cx) (body : List Stmt) (ts : Addr → Value → Option Addr → TS) : Prop :=
  ∀ (a : Addr) (ob : Obj) (cls : Value) (d : Option Addr) (ps : List (Addr × Obj)), Zc cls d ob → (∃ fs, ob.data = .fields fs) → PSs (X.suite a ((a, ob) :: ps)) body (ts a cls d)
inductive ClaOk (X : Cx) : List ExceptHandler → List Cla → Prop
  | nil : ClaOk X [] []
  | plain {x c ts st suite p1 p2 hds l} (nm : Names X x c) (su : SuiteOk X (st :: suite) ts) (r : ClaOk X hds l) : ClaOk X (.ExceptHandler (some (.Name x p1)) none (st :: suite) p2 :: hds) (⟨c, none, ts⟩ :: l)
  | named {x n i c ts st suite p1 p2 hds l} (nm : Names X x c) (hi : X.N[i]? = some n) (hl : X.env.kindOf n = some .local) (su : SuiteOk X (st :: suite) ts) (r : ClaOk X hds l) : ClaOk X (.ExceptHandler (some (.Name x p1)) (some n) (st :: suite) p2 :: hds) (⟨c, some i, ts⟩ :: l)
section
variable {X : Cx} {body : List Stmt} {h0 : ExceptHandler} {hds : List ExceptHandler} {l : List Cla} {pos : Pos} {tb : WX → TS} {Wout : WX}
/-- what stands when an exception has been caught: g is the heap, J the state without it -/
structure Caught (X : Cx) (pins : List (Addr × Obj)) (σ : L2.St) (H : Hp) (sI s1 : Shared) (B : Heap) (a : Addr) (cls : Value) (d : Option Addr) (g : Heap) : Prop where
  J : Inv X pins σ H sI
  nb : ∀ b o, sI.heap.get? b = some o → b ∉ frs X.stack → B.get? b = some o
  up : sI.heap.UpToSlots g
  os : s1.os = sI.os
  ag : AllBare s1.gens
  na : H a = none
  fl : HandSPX.FlyingZ B (X.env :: X.outer) a (Zc cls d) g
theorem Caught.inv {pins : List (Addr × Obj)} {σ : L2.St} {H : Hp} {sI s1 : Shared} {B : Heap} {a : Addr} {cls : Value} {d : Option Addr} {g : Heap} (k : Caught X pins σ H sI s1 B a cls d g) : Inv X pins σ H { s1 with heap := g } :=
  k.J.landed k.nb k.fl.1 k.up k.os k.ag
theorem Caught.off {pins : List (Addr × Obj)} {σ : L2.St} {H : Hp} {sI s1 : Shared} {B : Heap} {a : Addr} {cls : Value} {d : Option Addr} {g : Heap} (k : Caught X pins σ H sI s1 B a cls d g) : a ∉ frs (X.env :: X.outer) := fun hm => by
  obtain ⟨ob, fs, he, _, hd⟩ := k.fl.there
  obtain ⟨_, ob', he', hn⟩ := k.fl.2.2.1.mem hm
  rw [he] at he'
  cases he'
  exact hn _ hd
theorem Caught.in_ {pins : List (Addr × Obj)} {σ : L2.St} {H : Hp} {sI s1 : Shared} {B : Heap} {a : Addr} {cls : Value} {d : Option Addr} {g : Heap} (hf : X.env.frame = some X.env.locals) (k : Caught X pins σ H sI s1 B a cls d g) :
    ∃ ob, g.get? a = some ob ∧ Zc cls d ob ∧ (∃ fs, ob.data = .fields fs) ∧ Inv (X.suite a ((a, ob) :: (X.pn ++ pins))) [] σ H { s1 with heap := g } := by
  obtain ⟨ob, fs, he, hz, hd⟩ := k.fl.there
  refine ⟨ob, he, hz, ⟨_, hd⟩, k.inv.suite he hd k.na (fun z => ?_) fun hm => ?_⟩
  · exact k.off (List.mem_filterMap.mpr ⟨X.env, List.mem_cons_self, by rw [hf, z]⟩)
  · obtain ⟨en, hen, q⟩ := List.mem_filterMap.mp hm
    exact k.off (List.mem_filterMap.mpr ⟨en, List.mem_cons_of_mem _ hen, q⟩)
variable {pins : List (Addr × Obj)} {σ : L2.St} {H : Hp} {sI s1 : Shared} {B : Heap} {a : Addr} {cls : Value} {d : Option Addr} {g : Heap} {D : Ends}
/-- no clause took it: on it goes -/
theorem Caught.on (hs : X.stack = X.env :: X.outer) (hf : X.env.frame = some X.env.locals) (tk : Takes X Wout) (k : Caught X pins σ H sI s1 B a cls d g) (w : Wout cls d σ H) :
    wpAny (model X.prog X.w) X.A (handleBy (.ref a) X.env []) (SP X pins D) X.xe { s1 with heap := g } := by
  apply wpAny_handleBy_nil
  have out : wpAny (model X.prog X.w) X.A (setFlight (.ref a) X.env.frame) (fun _ s4 => wpAny (model X.prog X.w) X.A (throw (.ref a) : Sem Flow) (SP X pins D) X.xe s4) X.xe { s1 with heap := g } := by
    rw [hf]
    refine HandSPX.setFlight_upZ k.fl fun g2 held up2 => ?_
    refine wpAny_throw (tk _ _ ⟨a, B, sI, pins, σ, H, cls, d, rfl, k.J, k.nb, k.up.trans up2, ?_, k.na, k.os, k.ag, w⟩)
    rw [hs]
    exact .inr (.inr held)
  obtain ⟨-, -, -, ob, fs, T, oT, tr, eo, _, ed, e1, -⟩ := id k.fl
  have ne : ¬ ((Value.ref T == Value.none) = true) := by simp
  unfold PySem.passOn
  refine wpAny_bind (wpAny_field eo ed e1 ?_)
  rw [if_neg ne]
  first
    | exact wpAny_bind (wpAny_pure (wpAny_bind out))
    | exact wpAny_bind out
/-- the clause that takes it, without a name -/
theorem Caught.suite0 {st : Stmt} {suite : List Stmt} {p2 : Pos} {ts : Addr → Value → Option Addr → TS} {R : Except Value Flow → Shared → Prop} (hf : X.env.frame = some X.env.locals) (su : SuiteOk X (st :: suite) ts) (k : Caught X pins σ H sI s1 B a cls d g) (w : ts a cls d D σ H)
    (hR : ∀ f s', SP X pins D f s' → R (.ok f) s') : codeAny (model X.prog X.w) (X.A.mark (some (.ref a))) (.handlers (.ref a) [.ExceptHandler none none (st :: suite) p2] X.env) R { s1 with heap := g } := by
  apply codeAny_handlers_suite
  refine HandSPX.lands_againZ k.fl fun g2 fl2 up2 => ?_
  obtain ⟨ob, _, hz, hfs, S⟩ := Caught.in_ hf { k with up := k.up.trans up2, fl := fl2 }
  refine wpAny_mono ((su a ob cls d (X.pn ++ pins) hz hfs).run [] _ σ H D S w) (fun f s' q => hR f s' ?_) (fun _ _ z => False.elim z)
  have ok := k.J.ok
  cases f with
  | ret u => obtain ⟨v, σ2, H2, S2, r, q⟩ := q; exact ⟨v, σ2, H2, S2.unsuite ok, r, q⟩
  | next => obtain ⟨σ2, H2, S2, q⟩ := q; exact ⟨σ2, H2, S2.unsuite ok, q⟩
  | brk => obtain ⟨σ2, H2, S2, q⟩ := q; exact ⟨σ2, H2, S2.unsuite ok, q⟩
  | cont => obtain ⟨σ2, H2, S2, q⟩ := q; exact ⟨σ2, H2, S2.unsuite ok, q⟩
/-- the clause that takes it, with a name -/
theorem Caught.suite1 {st : Stmt} {suite : List Stmt} {p2 p3 : Pos} {n : Str} {i : Nat} {ts : Addr → Value → Option Addr → TS} {R : Except Value Flow → Shared → Prop} (hf : X.env.frame = some X.env.locals) (hN : X.N.Nodup) (hi : X.N[i]? = some n) (hl : X.env.kindOf n = some .local)
    (su : SuiteOk X (st :: suite) ts) (k : Caught X pins σ H sI s1 B a cls d g) (w : ts a cls d (goneE D i) (σ.set i (some (.ref a))) H)
    (hR : ∀ f s', wpAny (model X.prog X.w) X.A (do bindName X.env n .none; unbindBehindTheSuite X.env n p3) (fun _ s2 => SP X pins D f s2) X.xe s' → R (.ok f) s') : codeAny (model X.prog X.w) (X.A.mark (some (.ref a))) (.handlers (.ref a) [.ExceptHandler none (some n) (st :: suite) p2] X.env) R { s1 with heap := g } := by
  apply codeAny_handlers_suite_as
  refine HandSPX.lands_againZ k.fl fun g2 fl2 up2 => ?_
  obtain ⟨ob, _, hz, hfs, S⟩ := Caught.in_ hf { k with up := k.up.trans up2, fl := fl2 }
  refine store_ok (X := X.suite a ((a, ob) :: (X.pn ++ pins))) (v := .ref a) S hN hi (.inl hl) rfl (fun s5 S5 => ?_) (.inr hl)
  refine wpAny_mono ((su a ob cls d (X.pn ++ pins) hz hfs).run [] s5 _ H (goneE D i) S5 w) (fun f s' q => hR f s' ?_) (fun _ _ z => False.elim z)
  have ok := k.J.ok
  cases f with
  | ret u => obtain ⟨v, σ2, H2, S2, r, q⟩ := q; exact gone_ok (S2.unsuite ok) hN hi hl fun s7 J7 => ⟨v, _, H2, J7, r, q⟩
  | next => obtain ⟨σ2, H2, S2, q⟩ := q; exact gone_ok (S2.unsuite ok) hN hi hl fun s7 J7 => ⟨_, H2, J7, q⟩
  | brk => obtain ⟨σ2, H2, S2, q⟩ := q; exact gone_ok (S2.unsuite ok) hN hi hl fun s7 J7 => ⟨_, H2, J7, q⟩
  | cont => obtain ⟨σ2, H2, S2, q⟩ := q; exact gone_ok (S2.unsuite ok) hN hi hl fun s7 J7 => ⟨_, H2, J7, q⟩
/-- the class of a clause is asked for -/
theorem Caught.asks {x : Str} {c : Value} {p1 p2 : Pos} {hit : Bool} {R : Except Value Flow → Shared → Prop} (hf : X.env.frame = some X.env.locals) (nm : Names X x c) (k : Caught X pins σ H sI s1 B a cls d g) (e : PySem.W.exmOne X.K cls c = some hit)
    (hR : R (.ok (if hit then .brk else .next)) { s1 with heap := g }) : codeAny (model X.prog X.w) (X.A.mark (some (.ref a))) (.handlers (.ref a) [.ExceptHandler (some (.Name x p1)) none [] p2] X.env) R { s1 with heap := g } := by
  apply codeAny_handlers_test
  obtain ⟨ob, he, hz, _, S⟩ := k.in_ hf
  have ty : PySem.W.Looks (model X.prog X.w) g (typeOf (.ref a)) cls := fun _ _ _ _ kp q => wpAny_typeOf_ref (kp _ _ he) (by rw [hz.1]; exact q)
  have mt := PySem.W.exm_one (M := model X.prog X.w) k.inv.kIn ty e
  obtain ⟨gl, nd, m | ⟨m, bv, nn⟩⟩ := nm
  · exact ld_glob (X := X.suite a ((a, ob) :: (X.pn ++ pins))) S gl m (mt.here hR) nd
  · exact ld_blt (X := X.suite a ((a, ob) :: (X.pn ++ pins))) S gl m bv (mt.here hR) nn nd
theorem Caught.clauses (hs : X.stack = X.env :: X.outer) (hf : X.env.frame = some X.env.locals) (hN : X.N.Nodup) (tk : Takes X Wout) (k : Caught X pins σ H sI s1 B a cls d g) : ∀ {hds : List ExceptHandler} {l : List Cla}, ClaOk X hds l → wCla X.K Wout D l cls d σ H →
    wpAny (model X.prog X.w) X.A (handleBy (.ref a) X.env hds) (SP X pins D) X.xe { s1 with heap := g } := by
  intro hds l hk
  induction hk with
  | nil => exact fun w => k.on hs hf tk w
  | plain nm su r ih =>
    rintro ⟨hit, e, yes, no⟩
    refine wpAny_handleBy_cons (k.asks hf nm e ?_) (by intro q; cases q)
    cases hit with
    | true => exact k.suite0 hf su (yes rfl a k.na) fun f s' q => q
    | false => exact ih (no rfl)
  | named nm hi hl su r ih =>
    rintro ⟨hit, e, yes, no⟩
    refine wpAny_handleBy_cons (k.asks hf nm e ?_) (by intro q; cases q)
    cases hit with
    | true => exact k.suite1 hf hN hi hl su (yes rfl a k.na) fun f s' q => q
    | false => exact ih (no rfl)
/-- try: .. except A: .. except B as e: .. -/
theorem ps_clauses (hs : X.stack = X.env :: X.outer) (hf : X.env.frame = some X.env.locals) (hN : X.N.Nodup) (tk : Takes X Wout)
    (hb : ∀ (W : WX) (ps : List (Addr × Obj)) (xe : Value → Shared → Prop), Takes (X.tr ps xe) W → PassesOwn (model X.prog X.w) X.A X.env xe → PSs (X.tr ps xe) body (tb W))
    (hh : ClaOk X (h0 :: hds) l) : PS X (.Try body (h0 :: hds) [] [] pos) (fun D σ H => tb (wCla X.K Wout D l) D σ H) := by
  refine ⟨fun ps s σ H D I h => ?_⟩
  have ok := I.ok
  apply wpAny_Try_except
  let xe : Value → Shared → Prop := fun e s1 => wpAny (model X.prog X.w) X.A (noteFrame e X.env) (fun _ s2 => wpAny (model X.prog X.w) X.A (setFlight e none) (fun _ s3 => wpAny (model X.prog X.w) X.A (handleBy e X.env (h0 :: hds)) (SP X ps D) X.xe s3) X.xe s2) X.xe s1
  have tx : Takes (X.tr (X.pn ++ ps) xe) (wCla X.K Wout D l) := fun u s' xx => by
    obtain ⟨a, B, sI, ps', σ2, H2, cls, d, rfl, J', nb, up, sky, na, os, ag, w⟩ := xx
    have sk : Sky B (X.env :: X.outer) a (Zc cls d) X.env.locals s'.heap := by rw [← hs]; exact sky
    refine Sky.land Zc.steady (by rw [ok.frames, hs]) hf sk fun g fl up2 => ?_
    exact Caught.clauses hs hf hN tk ⟨J'.ofTry ok, nb, up.trans up2, os, ag, na, fl⟩ hh w
  refine wpAny_mono ((hb _ (X.pn ++ ps) xe tx PassesOwn.looking).run [] s σ H D (I.toTry _) h) (fun f s1 q => ?_) (fun e s1 he => he)
  cases f with
  | next => obtain ⟨σ2, H2, J, q⟩ := q; exact wpAny_execs_nil ⟨σ2, H2, J.ofTry ok, q⟩
  | ret u => obtain ⟨v, σ2, H2, J, r, q⟩ := q; exact ⟨v, σ2, H2, J.ofTry ok, r, q⟩
  | brk => obtain ⟨σ2, H2, J, q⟩ := q; exact ⟨σ2, H2, J.ofTry ok, q⟩
  | cont => obtain ⟨σ2, H2, J, q⟩ := q; exact ⟨σ2, H2, J.ofTry ok, q⟩
end
end Cs
set_option maxHeartbeats 4000000
namespace Cs
open PySem PySem.Spec PyProof.Rows L2
section
variable {α β γ δ : Type} {W : Wd} {K : PySem.W.Frag} {ta tb tc td : TE} {t : Ty α} {u : Ty β} {x x' : α} {y : β} {tt uu : TT} {ar ak : TA} {fs : List SF} {i : Nat} {E : XK} {ts us vs : TS} {D : Ends} {g : TG} {as : α → List (Nat × SF)} {wi : TI}
/-! ### values whose evaluation changes the things -/
def Evm (W : Wd) (te : TE) (t : Ty α) (P : α → Wd → Prop) : Prop := ∀ σ H, Ok W σ H → ∀ Q : VK, (∀ v x W' H', P x W' → Ok W' σ H' → t.r (hid W'.S H') v x → Q v H') → te σ H Q
theorem go_dropm {P : α → Wd → Prop} (h : Evm W ta t P) (k : ∀ x W', P x W' → Go W' us D) : Go W (tSeq (tDrop ta) us) D := fun σ H o => h σ H o _ fun v x W' H' p o' r => k x W' p σ H' o'
theorem go_drop1m {P : α → Wd → Prop} (h : Evm W ta t P) (k : ∀ x W', P x W' → ∀ σ H, Ok W' σ H → D.nx σ H) : Go W (tDrop ta) D := fun σ H o => h σ H o _ fun v x W' H' p o' r => k x W' p σ H' o'
theorem go_setm {P : α → Wd → Prop} (h : Evm W ta t P) (k : ∀ x W', P x W' → Go (W'.at i (t.is x)) us D) : Go W (tSeq (tAsg ta (gName i)) us) D := fun σ H o => h σ H o _ fun v x W' H' p o' r => k x W' p _ _ (o'.put r)
theorem go_dropx {P : α → Prop} (h : Evx W ta t P) (k : ∀ x, P x → Go W us D) : Go W (tSeq (tDrop ta) us) D := fun σ H o => h σ H o _ fun v x H1 p g r => k x p _ _ g.ok
theorem go_drop1 (h : Ev W ta t x) (k : ∀ σ H, Ok W σ H → D.nx σ H) : Go W (tDrop ta) D := fun σ H o => h σ H o _ fun v H1 g r => k _ _ g.ok
/-- a def that changes the things C and leaves others in their place -/
def spS (C : α → List RS) (A : α → List SF) (w : Ty β) (pre : α → Prop) (post : α → β → List RS → Prop) : Sp := fun vs H Q _ => ∃ (S : List Addr) (x : α), (∀ a ∈ S, H a ≠ none) ∧ (fps (C x)).Nodup ∧ (∀ a, a ∈ fps (C x) → a ∈ S) ∧ RsAt (C x) S H ∧
  Fits (hid S H) (A x) vs ∧ pre x ∧ ∀ v y N C' H', post x y C' → Bt (fps (C x)) H H' → (∀ a, a ∈ N → H a = none ∧ H' a ≠ none) → (fps C').Nodup → (∀ a, a ∈ fps C' → a ∈ fps (C x) ∨ a ∈ N) → (∀ a, a ∈ fps (C x) → H' a ≠ none) → RsAt C' (N ++ S) H' → w.r (hid (N ++ S) H') v y → Q v H'
/-- the world behind it -/
def Aft (W : Wd) (R : List RS) (post : List RS → Prop) (W' : Wd) : Prop := ∃ N C', post C' ∧ W' = { W with S := N ++ W.S, L := C' ++ R }
theorem aft_of {C R : List RS} {σ : L2.St} {H H1 : Hp} {N : List Addr} {C' : List RS} (o : Ok W σ H1) (hL : W.L.Perm (C ++ R)) (b : Bt (fps C) H1 H) (hN : ∀ a, a ∈ N → H1 a = none ∧ H a ≠ none) (nd : (fps C').Nodup) (hC' : ∀ a, a ∈ fps C' → a ∈ fps C ∨ a ∈ N) (al : ∀ a, a ∈ fps C → H a ≠ none) (rs : RsAt C' (N ++ W.S) H) :
    Ok { W with S := N ++ W.S, L := C' ++ R } σ H := ((o.perm hL).change1 (C := C) (C' := C') (R := R) (N := N) rfl b hN nd hC' al rs).1
theorem evm_call {C : γ → List RS} {A : γ → List SF} {w : Ty β} {pre : γ → Prop} {post : γ → β → List RS → Prop} {z : γ} {R : List RS} (h : Ea W ar (A z)) (hp : pre z) (hL : W.L.Perm (C z ++ R)) : Evm W (tCall (spS C A w pre post) [] E ar) w (fun y => Aft W R (post z y)) := fun σ H o Q q => h σ H o _ fun vs H1 g1 r1 => by
  have o1 := g1.ok.perm hL
  refine ⟨W.S, z, g1.ok.al, (nodup_app.mp o1.nod).1, fun a m => ?_, fun r m => o1.at_ r (List.mem_append_left _ m), by rw [List.append_nil]; exact r1, hp, fun v y N C' H2 py b hN nd hC' al rs r => ?_⟩
  · obtain ⟨r, m1, m2⟩ := of_fps m
    exact (o1.own a (mem_fps (List.mem_append_left _ m1) m2)).1
  · exact q v y _ H2 ⟨N, C', py, rfl⟩ (aft_of g1.ok hL b hN nd hC' al rs) r
/-! ### methods -/
/-- the thing r says: at b an instance of C, without an own attribute named m -/
def IsOb (r : RS) (b C : Addr) (m : Str) : Prop := ∀ F H, r.p F H → ∃ dx fs, H b = some (.ins C dx fs) ∧ fs.lookup m = none
theorem evx_meth {r : RS} {b Cl : Addr} {m : Str} {C : γ → List RS} {A : γ → List SF} {w : Ty β} {pre : γ → Prop} {post : γ → β → Prop} {z : γ} {gs : List SF} (hi : IsOb r b Cl m) (hr : r ∈ W.L) (ho : Ev W ta tRf b) (h : Ea W ar gs) (hA : A z = tRf.is b :: gs) (hp : pre z) (hC : (C z).Sublist W.L := by first | exact List.nil_sublist _ | exact List.Sublist.refl _ | exact List.singleton_sublist.mpr (by simp) | simp) :
    Evx W (tMeth Cl m (spN C A w pre post) [] E ta ar) w (post z) := fun σ H o Q q => ho σ H o _ fun v0 H0 g0 r0 => by
  obtain rfl : v0 = .ref b := r0
  obtain ⟨dx, fs, h1, h2⟩ := hi _ _ (g0.ok.at_ r hr)
  refine ⟨b, dx, fs, rfl, h1, h2, h σ H0 g0.ok _ fun vs H1 g1 r1 => ?_⟩
  have sub : ∀ a, a ∈ fps (C z) → a ∈ W.S := fun a m => by
    obtain ⟨r, m1, m2⟩ := of_fps m
    exact (g1.ok.own a (mem_fps (hC.subset m1) m2)).1
  refine ⟨W.S, z, g1.ok.al, (fps_sub hC).nodup g1.ok.nod, sub, fun r m => g1.ok.at_ r (hC.subset m), by rw [List.append_nil, hA]; exact ⟨rfl, r1⟩, hp, fun v y H2 py bt al c rr => ?_⟩
  exact q v y H2 py ((g0.trans g1).trans (g1.ok.after (fun r m => hC.subset m) bt al c)) rr
theorem evm_meth {r : RS} {b Cl : Addr} {m : Str} {C : γ → List RS} {A : γ → List SF} {w : Ty β} {pre : γ → Prop} {post : γ → β → List RS → Prop} {z : γ} {R : List RS} {gs : List SF} (hi : IsOb r b Cl m) (hr : r ∈ W.L) (ho : Ev W ta tRf b) (h : Ea W ar gs) (hA : A z = tRf.is b :: gs) (hp : pre z) (hL : W.L.Perm (C z ++ R)) :
    Evm W (tMeth Cl m (spS C A w pre post) [] E ta ar) w (fun y => Aft W R (post z y)) := fun σ H o Q q => ho σ H o _ fun v0 H0 g0 r0 => by
  obtain rfl : v0 = .ref b := r0
  obtain ⟨dx, fs, h1, h2⟩ := hi _ _ (g0.ok.at_ r hr)
  refine ⟨b, dx, fs, rfl, h1, h2, h σ H0 g0.ok _ fun vs H1 g1 r1 => ?_⟩
  have o1 := g1.ok.perm hL
  refine ⟨W.S, z, g1.ok.al, (nodup_app.mp o1.nod).1, fun a m => ?_, fun r m => o1.at_ r (List.mem_append_left _ m), by rw [List.append_nil, hA]; exact ⟨rfl, r1⟩, hp, fun v y N C' H2 py b hN nd hC' al rs r => ?_⟩
  · obtain ⟨r, m1, m2⟩ := of_fps m
    exact (o1.own a (mem_fps (List.mem_append_left _ m1) m2)).1
  · exact q v y _ H2 ⟨N, C', py, rfl⟩ (aft_of g1.ok hL b hN nd hC' al rs) r
/-- e.f, a property -/
theorem evx_prop {r : RS} {b Cl : Addr} {C : γ → List RS} {A : γ → List SF} {w : Ty β} {pre : γ → Prop} {post : γ → β → Prop} {z : γ} (hi : ∀ F H, r.p F H → ∃ dx fs, H b = some (.ins Cl dx fs)) (hr : r ∈ W.L) (ho : Ev W ta tRf b) (hA : A z = [tRf.is b]) (hp : pre z) (hC : (C z).Sublist W.L := by first | exact List.nil_sublist _ | exact List.Sublist.refl _ | exact List.singleton_sublist.mpr (by simp) | simp) :
    Evx W (tProp Cl (spN C A w pre post) [] E ta) w (post z) := fun σ H o Q q => ho σ H o _ fun v0 H0 g0 r0 => by
  obtain rfl : v0 = .ref b := r0
  obtain ⟨dx, fs, h1⟩ := hi _ _ (g0.ok.at_ r hr)
  have sub : ∀ a, a ∈ fps (C z) → a ∈ W.S := fun a m => by
    obtain ⟨r, m1, m2⟩ := of_fps m
    exact (g0.ok.own a (mem_fps (hC.subset m1) m2)).1
  refine ⟨b, dx, fs, rfl, h1, W.S, z, g0.ok.al, (fps_sub hC).nodup g0.ok.nod, sub, fun r m => g0.ok.at_ r (hC.subset m), by rw [hA]; exact ⟨rfl, trivial⟩, hp, fun v y H2 py bt al c rr => ?_⟩
  exact q v y H2 py (g0.trans (g0.ok.after (fun r m => hC.subset m) bt al c)) rr
theorem start_slots {H : Hp} {fs : List SF} {vs : List V} {N : List Str} {m i : Nat} {f : SF} (hm : vs.length = m) (ft : Fits H fs vs) (q : (fs.map some ++ List.replicate (N.length - m) none)[i]? = some (some f)) : ∃ v, (L2.start N vs)[i]? = some (some v) ∧ f.p H v := by
  unfold L2.start
  by_cases l : i < fs.length
  · rw [List.getElem?_append_left (by simpa using l), List.getElem?_map] at q
    cases c : fs[i]? with
    | none => rw [c] at q; cases q
    | some z =>
      rw [c] at q
      obtain rfl : z = f := Option.some.inj (Option.some.inj q)
      obtain ⟨v, hv, hz⟩ := ft.get c
      exact ⟨v, by rw [List.getElem?_append_left (by simpa [ft.length] using l), List.getElem?_map, hv]; rfl, hz⟩
  · rw [List.getElem?_append_right (by simpa using l)] at q
    have := List.mem_of_getElem? q
    rw [List.mem_replicate] at this
    exact absurd this.2 (by simp)
/-! ### the end of a def that changes things -/
/-- what such a promise wants at its end -/
def RtS (C : List RS) (S : List Addr) (H : Hp) (w : Ty β) (P : β → List RS → Prop) (Q : VK) : Prop := ∀ v y N C' H', P y C' → Bt (fps C) H H' → (∀ a, a ∈ N → H a = none ∧ H' a ≠ none) → (fps C').Nodup → (∀ a, a ∈ fps C' → a ∈ fps C ∨ a ∈ N) → (∀ a, a ∈ fps C → H' a ≠ none) → RsAt C' (N ++ S) H' → w.r (hid (N ++ S) H') v y → Q v H'
theorem ends_S {C C' : List RS} {S N : List Addr} {w : Ty β} {P : β → List RS → Prop} {Q : VK} {σ : L2.St} {H : Hp} {v : V} (o : Ok W σ H) (out : RtS C S W.H0 w P Q) (r : w.r (hid W.S H) v y) (hp : P y C') (hS : W.S = N ++ S) (hL : W.L.Perm C') (hM : W.M = fps C) (al : ∀ a, a ∈ S → W.H0 a ≠ none) (hN : ∀ a, a ∈ N → a ∈ fps C' ∧ a ∉ S) (hMS : ∀ a, a ∈ fps C → a ∈ S) : Q v H := by
  have o' := o.perm hL
  have fr : ∀ a, a ∈ N → W.H0 a = none := fun a m => by
    rcases (o'.own a (hN a m).1).2 with q | q
    · exact absurd (hMS a (by rw [← hM]; exact q)) (hN a m).2
    · exact q
  refine out v y N C' H hp (by rw [← hM]; exact o.bt) (fun a m => ⟨fr a m, o.al a (by rw [hS]; exact List.mem_append_left _ m)⟩) o'.nod (fun a m => ?_) (fun a m => o.al a (o.ms a (by rw [hM]; exact m))) (fun r m => ?_) (by rw [← hS]; exact r)
  · have := (o'.own a m).1
    have h1 : a ∈ N ++ S := by rw [← hS]; exact this
    rcases List.mem_append.mp h1 with q | q
    · exact .inr q
    · rcases (o'.own a m).2 with z | z
      · exact .inl (by rw [← hM]; exact z)
      · exact absurd z (al a q)
  · have := o'.at_ r m
    rw [← hS]
    exact this
theorem ok_S {P : Program} {w : World} {mg : Str → Option Value} {base : Heap} {nm qual : Str} {st : Stmt} {f : Addr} {fd : FuncData} {N ps : List Str} {k : Nat} {C : α → List RS} {A : α → List SF} {wt : Ty β} {pre : α → Prop} {post : α → β → List RS → Prop}
    (F : Fun K nm qual st f fd) (S : FnScope N ps (defScope st)) (hl : ∀ x, (A x).length = ps.length)
    (body : ∀ (cdv : Value) (A' : Around) (outer : List Env) (s : Shared) (H0 : Hp) (S : List Addr) (x : α) (Q : VK) (E : XK), Room k (A'.deeper (envOfC qual (defScope st) s.heap.objs.size f cdv)) → pre x → (∀ a, a ∈ S → H0 a ≠ none) → (∀ a, a ∈ fps (C x) → a ∈ S) → RtS (C x) S H0 wt (post x) Q →
      ∃ t, PSs (cxOf CX0 P w K mg base N qual (defScope st) f cdv A' outer s H0 E).nox (defBody st) t ∧ Go ⟨H0, fps (C x), S, C x, [], (A x).map some ++ List.replicate (N.length - ps.length) none⟩ t { nx := fun _ H' => Q .non H', rt := Q }) :
    FnOk P w K mg base CX0 (k + 1) f fd ps (spS C A wt pre post) := by
  refine F.ok S (fun vs H Q E h => ?_) (fun cdv A' outer s H vs Q E hr h => ?_)
  · obtain ⟨S', x, _, _, _, _, ft, _⟩ := h
    rw [ft.length, hl]
  · obtain ⟨S', x, al, nd, sub, cc, ft, hp, out⟩ := h
    obtain ⟨t, h1, h2⟩ := body cdv A' outer s H S' x Q E hr hp al sub (fun v y N' C' H' => out v y N' C' H')
    refine ⟨t, h1, h2 _ _ ⟨nd, fun a m => ⟨sub a m, .inl m⟩, cc, sub, al, Bt.refl, ?_, (fun f m => nomatch m), fun i f' q => ?_⟩⟩
    · have e1 := ft.length
      have e2 := hl x
      show (L2.start N vs).length = _
      unfold L2.start
      simp only [List.length_append, List.length_map, List.length_replicate]
      omega
    · exact start_slots (by rw [ft.length, hl]) ft q
end
end Cs
set_option maxHeartbeats 4000000
namespace Cs
open PySem PySem.Spec PyProof.Rows L2
/-! ### methods by their promise -/
def CalM (P : Program) (w : World) (K : PySem.W.Frag) (mg : Str → Option Value) (base : Heap) (k : Nat) (C : Addr) (m : Str) (ps : List Str) (sp : Sp) : Prop :=
  ∃ (f : Addr) (fd : FuncData), Meth K C m f ∧ FnOk P w K mg base CX0 k f fd ps sp ∧ Binds K fd ps []
def CalMX (P : Program) (w : World) (K : PySem.W.Frag) (mg : Str → Option Value) (base : Heap) (k : Nat) (C : Addr) (m : Str) (ps : List Str) (sp : Sp) : Prop :=
  ∃ (f : Addr) (fd : FuncData), Meth K C m f ∧ FnOk P w K mg base (L2.CX P w) k f fd ps sp ∧ Binds K fd ps []
def CalP (P : Program) (w : World) (K : PySem.W.Frag) (mg : Str → Option Value) (base : Heap) (k : Nat) (C : Addr) (n : Str) (sp : Sp) : Prop :=
  ∃ (p f : Addr) (fd : FuncData), PropOf K C n p f ∧ FnOk P w K mg base CX0 k f fd ["self"] sp ∧ Binds K fd ["self"] []
section
variable {P : Program} {w : World} {K : PySem.W.Frag} {mg : Str → Option Value} {base : Heap} {k j : Nat} {C : Addr} {m : Str} {ps : List Str} {sp : Sp}
theorem CalM.mono (c : CalM P w K mg base j C m ps sp) (h : j ≤ k) : CalM P w K mg base k C m ps sp := by
  obtain ⟨f, fd, M, F, b⟩ := c
  exact ⟨f, fd, M, F.mono h, b⟩
theorem CalMX.mono (c : CalMX P w K mg base j C m ps sp) (h : j ≤ k) : CalMX P w K mg base k C m ps sp := by
  obtain ⟨f, fd, M, F, b⟩ := c
  exact ⟨f, fd, M, F.mono h, b⟩
theorem CalP.mono (c : CalP P w K mg base j C m sp) (h : j ≤ k) : CalP P w K mg base k C m sp := by
  obtain ⟨p, f, fd, M, F, b⟩ := c
  exact ⟨p, f, fd, M, F.mono h, b⟩
end
/-- how the call of a method is told -/
abbrev MCall (X : Cx) (o : Expr) (m : Str) (es : List Expr) (apos pos : Pos) (pl : Sem Bool) : Prop := eval (.Call (.Attribute o m apos) es [] pos) X.env = (eval o X.env >>= fun ov => standAt apos.atName >>= fun _ => holding [ov] (getMethod ov m pl) >>= fun q =>
  callWith pos q.1 q.2 (backTo pos (starEach es X.env)) (backToKw pos (keywordEach [] X.env)))
/-- o.m(e, ..) that may raise, by the slots -/
def tMethX (C : Addr) (m : Str) (sp : Sp) (E : L2.St → XK) (ta : TE) (t : TA) : TE := fun σ H Q => ta σ H fun x H1 => ∃ a dx fs, x = .ref a ∧ H1 a = some (.ins C dx fs) ∧ fs.lookup m = none ∧ t σ H1 fun vs H2 => sp (x :: vs) H2 Q (E σ)
section
variable {X : Cx} {k : Nat} {C : Addr} {m : Str} {ps : List Str} {sp : Sp} {p pos apos : Pos} {o e : Expr} {es : List Expr} {ta : TE} {t : TA} {E : XK} {pl : Sem Bool}
theorem pe_calM (he : PE X o ta) (c : CalM X.prog X.w X.K X.mg X.base k C m ps sp) (cl : Cls X.K C) (hr : Room k X.A) (ha : PA X (e :: es) t) (hst : starEach (e :: es) X.env = (false, eval e X.env) :: starEach es X.env := by rfl) (hpl : (backTo pos (starEach es X.env)).any (·.1) = false := by rfl)
    (ht : MCall X o m (e :: es) apos pos pl := by rfl) : PE X (.Call (.Attribute o m apos) (e :: es) [] pos) (tMeth C m sp [] E0 ta t) := by
  obtain ⟨f, fd, M, F, b⟩ := c
  exact pe_meth he cl M F hr b .nil (fun _ _ _ _ _ _ _ z => z.elim) ha hst hpl ht
theorem pe_calM0 (he : PE X o ta) (c : CalM X.prog X.w X.K X.mg X.base k C m ps sp) (cl : Cls X.K C) (hr : Room k X.A)
    (ht : MCall X o m [] apos pos pl := by rfl) : PE X (.Call (.Attribute o m apos) [] [] pos) (tMeth C m sp [] E0 ta tNil) := by
  obtain ⟨f, fd, M, F, b⟩ := c
  exact pe_meth0 he cl M F hr b .nil (fun _ _ _ _ _ _ _ z => z.elim) ht
theorem pe_calMX (he : PE X o ta) (c : CalMX X.prog X.w X.K X.mg X.base k C m ps sp) (cl : Cls X.K C) (hr : Room k X.A) (hx : Passes (L2.CX X.prog X.w) X E) (ha : PA X (e :: es) t) (hst : starEach (e :: es) X.env = (false, eval e X.env) :: starEach es X.env := by rfl) (hpl : (backTo pos (starEach es X.env)).any (·.1) = false := by rfl)
    (ht : MCall X o m (e :: es) apos pos pl := by rfl) : PE X (.Call (.Attribute o m apos) (e :: es) [] pos) (tMeth C m sp [] E ta t) := by
  obtain ⟨f, fd, M, F, b⟩ := c
  exact pe_meth he cl M F hr b .nil hx ha hst hpl ht
theorem pe_calMS {E : L2.St → XK} (he : PE X o ta) (c : CalMX X.prog X.w X.K X.mg X.base k C m ps sp) (cl : Cls X.K C) (hr : Room k X.A) (hx : ∀ σ, PassesAt (L2.CX X.prog X.w) X σ (E σ)) (ha : PA X (e :: es) t) (hst : starEach (e :: es) X.env = (false, eval e X.env) :: starEach es X.env := by rfl) (hpl : (backTo pos (starEach es X.env)).any (·.1) = false := by rfl)
    (ht : MCall X o m (e :: es) apos pos pl := by rfl) : PE X (.Call (.Attribute o m apos) (e :: es) [] pos) (tMethX C m sp E ta t) := by
  obtain ⟨f, fd, M, F, b⟩ := c
  refine ⟨fun pins s σ H Q I h => PySem.W.methodCall_KW (pl := pl) (thn (he.run pins s σ H _ I h) fun u s1 => ?_) ht⟩
  rintro ⟨y, H1, I1, ry, a, dx, fs, rfl, at1, lk, q⟩
  obtain rfl : u = .ref a := ry
  refine getmeth_ok I1 at1 cl M lk (PySem.W.callWith_K (first := [.ref a]) (h₀ := X.base) I1.ok.mod.kin M.kp (thn (ha.run pos pins s1 σ H1 _ I1 q) fun us s2 => ?_) hst hpl)
  rintro ⟨vs, H2, I2, r, q2⟩
  exact ⟨I2.kIn, run_fnS (us := .ref a :: us) (vs := .ref a :: vs) F hr b (hx σ) I2 (.cons rfl r) q2⟩
end
section
variable {X : Cx} {k : Nat} {C : Addr} {n : Str} {sp : Sp} {pos : Pos} {o : Expr} {ta : TE} {E : XK}
theorem pe_calP (he : PE X o ta) (c : CalP X.prog X.w X.K X.mg X.base k C n sp) (cl : Cls X.K C) (hr : Room (k + 1) X.A) (hab : attributeBase o n X.env (eval o X.env) = eval o X.env := by rfl) : PE X (.Attribute o n pos) (tProp C sp [] E0 ta) := by
  obtain ⟨p, f, fd, M, F, b⟩ := c
  exact pe_prop he cl M F hr b .nil (fun _ _ _ _ _ _ _ z => z.elim) hab
end
/-! ### promises to raise -/
section
variable {α β γ δ : Type} {W : Wd} {K : PySem.W.Frag} {ta tb tc td : TE} {t : Ty α} {u : Ty β} {x x' : α} {y : β} {tt uu : TT} {ar ak : TA} {fs : List SF} {i : Nat} {E : XK} {ts us vs : TS} {D : Ends}
/-- an error of the class at CE with such attributes; the things C keep what they promise -/
def spE (C : α → List RS) (A : α → List SF) (pre : α → Prop) (CE : Addr) (flds : α → List (Str × SF)) : Sp := fun vs H _ E => ∃ (S : List Addr) (x : α), (∀ a ∈ S, H a ≠ none) ∧ (fps (C x)).Nodup ∧ (∀ a, a ∈ fps (C x) → a ∈ S) ∧ RsAt (C x) S H ∧ Fits (hid S H) (A x) vs ∧ pre x ∧
  ∀ d fs H', Bt (fps (C x)) H H' → (∀ a, a ∈ fps (C x) → H' a ≠ none) → RsAt (C x) S H' → H' d = some (.xd fs) → FldAt (hid S H') fs (flds x) → E (.ref CE) (some d) H'
/-- where an error of the world W goes: the wish w, at these slots -/
def Flies (W : Wd) (σ : L2.St) (CE : Addr) (flds : List (Str × SF)) (w : XK) : Prop := ∀ d fs H', Ok W σ H' → H' d = some (.xd fs) → FldAt (hid W.S H') fs flds → w (.ref CE) (some d) H'
theorem evx_methE {r : RS} {b Cl CE : Addr} {m : Str} {C : γ → List RS} {A : γ → List SF} {w : Ty β} {pre : γ → Prop} {flds : γ → List (Str × SF)} {z : γ} {gs : List SF} {EE : L2.St → XK} (hi : IsOb r b Cl m) (hr : r ∈ W.L) (ho : Ev W ta tRf b) (h : Ea W ar gs) (hA : A z = tRf.is b :: gs) (hp : pre z) (fl : ∀ σ, Flies W σ CE (flds z) (EE σ))
    (hC : (C z).Sublist W.L := by first | exact List.nil_sublist _ | exact List.Sublist.refl _ | exact List.singleton_sublist.mpr (by simp) | simp) : Evx W (tMethX Cl m (spE C A pre CE flds) EE ta ar) w (fun _ => False) := fun σ H o Q q => ho σ H o _ fun v0 H0 g0 r0 => by
  obtain rfl : v0 = .ref b := r0
  obtain ⟨dx, fs, h1, h2⟩ := hi _ _ (g0.ok.at_ r hr)
  refine ⟨b, dx, fs, rfl, h1, h2, h σ H0 g0.ok _ fun vs H1 g1 r1 => ?_⟩
  have sub : ∀ a, a ∈ fps (C z) → a ∈ W.S := fun a m => by
    obtain ⟨r, m1, m2⟩ := of_fps m
    exact (g1.ok.own a (mem_fps (hC.subset m1) m2)).1
  refine ⟨W.S, z, g1.ok.al, (fps_sub hC).nodup g1.ok.nod, sub, fun r m => g1.ok.at_ r (hC.subset m), by rw [hA]; exact ⟨rfl, r1⟩, hp, fun d xs H2 bt al c hd hf => ?_⟩
  exact fl σ d xs H2 (g1.ok.after (fun r m => hC.subset m) bt al c).ok hd hf
/-- the same, one wish at all slots -/
theorem evx_methE0 {r : RS} {b Cl CE : Addr} {m : Str} {C : γ → List RS} {A : γ → List SF} {w : Ty β} {pre : γ → Prop} {flds : γ → List (Str × SF)} {z : γ} {gs : List SF} (hi : IsOb r b Cl m) (hr : r ∈ W.L) (ho : Ev W ta tRf b) (h : Ea W ar gs) (hA : A z = tRf.is b :: gs) (hp : pre z) (fl : ∀ σ, Flies W σ CE (flds z) E)
    (hC : (C z).Sublist W.L := by first | exact List.nil_sublist _ | exact List.Sublist.refl _ | exact List.singleton_sublist.mpr (by simp) | simp) : Evx W (tMeth Cl m (spE C A pre CE flds) [] E ta ar) w (fun _ => False) := fun σ H o Q q => ho σ H o _ fun v0 H0 g0 r0 => by
  obtain rfl : v0 = .ref b := r0
  obtain ⟨dx, fs, h1, h2⟩ := hi _ _ (g0.ok.at_ r hr)
  refine ⟨b, dx, fs, rfl, h1, h2, h σ H0 g0.ok _ fun vs H1 g1 r1 => ?_⟩
  have sub : ∀ a, a ∈ fps (C z) → a ∈ W.S := fun a m => by
    obtain ⟨r, m1, m2⟩ := of_fps m
    exact (g1.ok.own a (mem_fps (hC.subset m1) m2)).1
  refine ⟨W.S, z, g1.ok.al, (fps_sub hC).nodup g1.ok.nod, sub, fun r m => g1.ok.at_ r (hC.subset m), by rw [List.append_nil, hA]; exact ⟨rfl, r1⟩, hp, fun d xs H2 bt al c hd hf => ?_⟩
  exact fl σ d xs H2 (g1.ok.after (fun r m => hC.subset m) bt al c).ok hd hf
/-- `__init__` of an error that keeps its one argument as n -/
def spXi (K : PySem.W.Frag) (C : Addr) (n : Str) : Sp := fun vs H Q _ => ∃ (a : Addr) (v : V), vs = [.ref a, v] ∧ OexC K C ∧ PySem.W.findIn K (.ref C) n = some none ∧ H a = some (exo a C none) ∧ ∀ dx, H dx = none → dx ≠ a → Q .non (upd (upd H dx (exd dx [(n, v)])) a (exo a C (some dx)))
/-- raise C(e) -/
theorem go_raise {C : Addr} {n : Str} {WW : WX} (T : OexC K C) (hn : PySem.W.findIn K (.ref C) n = some none) (h : Ev W ta t x) (fl : ∀ σ, Flies W σ C [(n, t.is x)] (fun c d H => WW c d σ H)) : Go W (fun _ σ H => tMkO C (spXi K C n) [] (tCons ta tNil) σ H fun cls d H' => WW cls d σ H') D := fun σ H o => h σ H o _ fun v H1 g r => by
  refine ⟨by show 1 ≤ 1000; decide, fun a na => ⟨a, v, rfl, T, hn, upd_same, fun dx nx ne => ⟨rfl, dx, [(n, v)], upd_same, by rw [upd_ne ne, upd_same], ?_, ?_⟩⟩⟩
  · rw [upd_ne ne] at nx
    exact nx
  · rw [upd_ne ne] at nx
    have e1 : Same H1 (upd (del (upd (upd (upd H1 a (exo a C none)) dx (exd dx [(n, v)])) a (exo a C (some dx))) a) dx (.xd [(n, v)])) := fun b ob hb => by
      have b1 : b ≠ a := fun q => by rw [q, na] at hb; cases hb
      have b2 : b ≠ dx := fun q => by rw [q, nx] at hb; cases hb
      rw [upd_ne b2, del_ne b1, upd_ne b1, upd_ne b2, upd_ne b1]
      exact hb
    refine fl σ dx [(n, v)] _ (g.ok.same e1) upd_same fun m f mm => ?_
    rw [List.mem_singleton] at mm
    obtain ⟨rfl, rfl⟩ := Prod.mk.inj mm
    exact ⟨v, by simp [List.lookup], t.mono (hid_same e1) r⟩
/-- a def that raises -/
theorem ok_E {P : Program} {w : World} {mg : Str → Option Value} {base : Heap} {nm qual : Str} {st : Stmt} {f : Addr} {fd : FuncData} {N ps : List Str} {k : Nat} {C : α → List RS} {A : α → List SF} {pre : α → Prop} {CE : Addr} {flds : α → List (Str × SF)}
    (F : Fun K nm qual st f fd) (S : FnScope N ps (defScope st)) (hl : ∀ x, (A x).length = ps.length)
    (body : ∀ (cdv : Value) (A' : Around) (outer : List Env) (s : Shared) (H0 : Hp) (S : List Addr) (x : α) (Q : VK) (E : XK), Room k (A'.deeper (envOfC qual (defScope st) s.heap.objs.size f cdv)) → pre x → (∀ σ F G, Flies ⟨H0, fps (C x), S, C x, F, G⟩ σ CE (flds x) E) →
      ∃ t, PSs (cxOf (L2.CX P w) P w K mg base N qual (defScope st) f cdv A' outer s H0 E) (defBody st) t ∧ Go ⟨H0, fps (C x), S, C x, [], (A x).map some ++ List.replicate (N.length - ps.length) none⟩ t { nx := fun _ H' => Q .non H', rt := Q }) :
    FnOk P w K mg base (L2.CX P w) (k + 1) f fd ps (spE C A pre CE flds) := by
  refine F.okX S (fun vs H Q E h => ?_) (fun cdv A' outer s H vs Q E hr h => ?_)
  · obtain ⟨S', x, _, _, _, _, ft, _⟩ := h
    rw [ft.length, hl]
  · obtain ⟨S', x, al, nd, sub, cc, ft, hp, out⟩ := h
    obtain ⟨t, h1, h2⟩ := body cdv A' outer s H S' x Q E hr hp fun σ F' G d fs H' o hd hf => out d fs H' o.bt (fun a m => o.al a (sub a m)) o.at_ hd hf
    refine ⟨t, h1, h2 _ _ ⟨nd, fun a m => ⟨sub a m, .inl m⟩, cc, sub, al, Bt.refl, ?_, (fun f m => nomatch m), fun i f' q => ?_⟩⟩
    · have e1 := ft.length
      have e2 := hl x
      show (L2.start N vs).length = _
      unfold L2.start
      simp only [List.length_append, List.length_map, List.length_replicate]
      omega
    · exact start_slots (by rw [ft.length, hl]) ft q
end
end Cs
set_option maxHeartbeats 4000000
namespace Cs
open PySem PySem.Spec PyProof.Rows L2
/-! ### what a thing says -/
/-- at q stands o -/
def Says (r : RS) (q : Addr) (o : HO) : Prop := ∀ F H, r.p F H → H q = some o
/-- at q a list of such values -/
def SaysL (r : RS) (q : Addr) {α : Type} (t : Ty α) (xs : List α) : Prop := ∀ F H, r.p F H → ∃ vs, H q = some (.lst vs) ∧ All2 (t.r F) vs xs
/-- at b an instance of C whose attribute n is at q -/
def SaysF (r : RS) (b C : Addr) (n : Str) (q : Addr) : Prop := ∀ F H, r.p F H → ∃ dx fs, H b = some (.ins C dx fs) ∧ fs.lookup n = some (.ref q)
section
variable {α β γ δ : Type} {W : Wd} {K : PySem.W.Frag} {ta tb tc td ty : TE} {t : Ty α} {u : Ty β} {x x' : α} {y : β} {tt uu : TT} {ar ak : TA} {fs : List SF} {i : Nat} {E : XK} {ts us vs : TS} {D : Ends} {r : RS} {q b C : Addr} {n z : Str} {kvs : List (Key × V)} {xs : List α}
theorem ev_fldR (hr : r ∈ W.L) (hs : SaysF r b C n q) (ho : Ev W ta tRf b) (cl : Cls K C) (na : NoAttr K C n) : Ev W (tFld K ta n) tRf q := fun σ H o Q k => ho σ H o _ fun v0 H0 g0 r0 => by
  obtain rfl : v0 = .ref b := r0
  obtain ⟨dx, fs, h1, h2⟩ := hs _ _ (g0.ok.at_ r hr)
  exact ⟨b, C, dx, fs, .ref q, rfl, h1, cl, na, h2, k _ H0 g0 rfl⟩
theorem et_inR (hr : r ∈ W.L) (hs : Says r q (.dK kvs)) (ha : Ev W ty tSt z) (hd : Ev W td tRf q) : Et W (tB (tDIn ty td)) ((valV kvs (Sum.inr z)).isSome) := fun σ H o Q k =>
  ha σ H o _ fun v H1 g1 r1 => hd σ H1 g1.ok _ fun w H2 g2 r2 => by
    obtain rfl : w = .ref q := r2
    refine ⟨q, valV kvs (Sum.inr z), rfl, ?_, _, rfl, k H2 (g1.trans g2)⟩
    rw [show v = kV (Sum.inr z) from r1]
    exact DGet.k (hs _ _ (g2.ok.at_ r hr))
theorem et_niR (hr : r ∈ W.L) (hs : Says r q (.dK kvs)) (ha : Ev W ty tSt z) (hd : Ev W td tRf q) : Et W (tB (tDNotIn ty td)) (!(valV kvs (Sum.inr z)).isSome) := fun σ H o Q k =>
  ha σ H o _ fun v H1 g1 r1 => hd σ H1 g1.ok _ fun w H2 g2 r2 => by
    obtain rfl : w = .ref q := r2
    refine ⟨q, valV kvs (Sum.inr z), rfl, ?_, _, rfl, k H2 (g1.trans g2)⟩
    rw [show v = kV (Sum.inr z) from r1]
    exact DGet.k (hs _ _ (g2.ok.at_ r hr))
theorem ev_dgetR {p : Addr} (hr : r ∈ W.L) (hs : Says r q (.dK kvs)) (hd : Ev W td tRf q) (ha : Ev W ty tSt z) (e : valV kvs (Sum.inr z) = some (.ref p)) : Ev W (tDGet td ty) tRf p := fun σ H o Q k =>
  hd σ H o _ fun w H1 g1 r1 => ha σ H1 g1.ok _ fun v H2 g2 r2 => by
    obtain rfl : w = .ref q := r1
    refine ⟨q, .ref p, rfl, ?_, k _ H2 (g1.trans g2) rfl⟩
    rw [show v = kV (Sum.inr z) from r2, ← e]
    exact DGet.k (hs _ _ (g2.ok.at_ r hr))
/-- xs[n], xs a list that is the thing's own -/
theorem ev_ixR {m : Int} (hr : r ∈ W.L) (hs : SaysL r q t xs) (ha : Ev W ta tRf q) (hb : Ev W tb tInt m) (e : atI xs m = some x) : Ev W (tOp (rIxL K) ta tb) t x := fun σ H o Q k =>
  ha σ H o _ fun v H1 g1 r1 => hb σ H1 g1.ok _ fun v2 H2 g2 r2 => by
    obtain rfl : v = .ref q := r1
    obtain ⟨vs, h1, al⟩ := hs _ _ (g2.ok.at_ r hr)
    have : ∃ z, atI vs m = some z ∧ t.r (hid W.S H2) z x := by
      unfold atI at e ⊢
      rw [al.length]
      cases c : ixN xs.length m with
      | none => rw [c] at e; cases e
      | some k => rw [c] at e; exact al.get e
    obtain ⟨z, hz, rz⟩ := this
    exact ⟨q, vs, m, z, rfl, r2, SqL.of h1, hz, k z H2 (g1.trans g2) rz⟩
theorem et_truR (hr : r ∈ W.L) (hs : SaysL r q t xs) (ha : Ev W ta tRf q) : Et W (fun σ H Q => ta σ H fun x H' => ∃ k, TruV K x H' k ∧ Q k H') (!xs.isEmpty) := fun σ H o Q k =>
  ha σ H o _ fun v H1 g1 r1 => by
    obtain rfl : v = .ref q := r1
    obtain ⟨vs, h1, al⟩ := hs _ _ (g1.ok.at_ r hr)
    have e : (!xs.isEmpty) = !vs.isEmpty := by
      cases vs <;> cases xs <;> first | rfl | exact al.elim
    exact ⟨!xs.isEmpty, .inl ⟨vs, SqL.of h1, by rw [e]⟩, k H1 g1⟩
theorem ev_lenR (hr : r ∈ W.L) (hs : SaysL r q t xs) (ha : Ev W ta tRf q) : Ev W (tCB (fun xs H Q => ∃ p ys, xs = [.ref p] ∧ (SqL K H p ys ∨ SqT K H p ys) ∧ Q (.int ys.length) H) (tCons ta tNil)) tInt (xs.length : Int) := fun σ H o Q k =>
  ha σ H o _ fun v H1 g1 r1 => by
    obtain rfl : v = .ref q := r1
    obtain ⟨vs, h1, al⟩ := hs _ _ (g1.ok.at_ r hr)
    exact ⟨q, vs, rfl, .inl (SqL.of h1), k _ H1 g1 (by rw [al.length]; rfl)⟩
theorem ev_listR (hr : r ∈ W.L) (hs : SaysL r q t xs) (ha : Ev W ta tRf q) : Ev W (tCB (fun xs H Q => ∃ p ys, xs = [.ref p] ∧ (SqL K H p ys ∨ SqT K H p ys) ∧ ∀ l, H l = none → Q (.ref l) (upd H l (.lst ys))) (tCons ta tNil)) (tLs K t) xs := fun σ H o Q k =>
  ha σ H o _ fun v H1 g1 r1 => by
    obtain rfl : v = .ref q := r1
    obtain ⟨vs, h1, al⟩ := hs _ _ (g1.ok.at_ r hr)
    exact ⟨q, vs, rfl, .inl (SqL.of h1), fun l nl => k _ _ (g1.trans (g1.ok.new nl)) ⟨l, vs, rfl, (by rw [hid_of (g1.ok.off nl)]; exact upd_same), All2.mono (fun _ _ => t.mono (g1.ok.new nl).up) al⟩⟩
/-! ### walks over a list of the thing -/
/-- at q the list of these values, each with what it is -/
def SaysR (r : RS) (q : Addr) {α : Type} (t : Ty α) (vxs : List (V × α)) : Prop := ∀ F H, r.p F H → H q = some (.lst (vxs.map (·.1))) ∧ ∀ p ∈ vxs, t.r F p.1 p.2
theorem all2_tags {α : Type} {rel : V → α → Prop} : ∀ {vxs : List (V × α)}, (∀ p ∈ vxs, rel p.1 p.2) → All2 rel (vxs.map (·.1)) (vxs.map (·.2))
  | [], _ => trivial
  | p :: l, h => ⟨h p (List.mem_cons_self ..), all2_tags fun q m => h q (List.mem_cons_of_mem _ m)⟩
theorem tags_of {α : Type} {rel : V → α → Prop} : ∀ {vs : List V} {xs : List α}, All2 rel vs xs → ∃ vxs : List (V × α), vxs.map (·.1) = vs ∧ vxs.map (·.2) = xs ∧ ∀ p ∈ vxs, rel p.1 p.2
  | [], [], _ => ⟨[], rfl, rfl, fun p m => nomatch m⟩
  | v :: vs, x :: xs, h => by
    obtain ⟨l, h1, h2, h3⟩ := tags_of h.2
    refine ⟨(v, x) :: l, by rw [List.map_cons, h1], by rw [List.map_cons, h2], fun p m => ?_⟩
    rcases List.mem_cons.mp m with m | m
    · rw [m]; exact h.1
    · exact h3 p m
  | [], _ :: _, h => h.elim
  | _ :: _, [], h => h.elim
theorem SaysR.l {vxs : List (V × α)} (h : SaysR r q t vxs) : SaysL r q t (vxs.map (·.2)) := fun F H p => ⟨_, (h F H p).1, all2_tags (h F H p).2⟩
structure WksR {α : Type} (J : It) (r : RS) (t : Ty α) (xs : List α) : Prop where
  ex : ∃ Y, Walk J xs.length (fun H => ∃ S, r.p (hid S H) H) Y ∧ ∀ i H v H' S, i < xs.length → r.p (hid S H) H → (∀ a ∈ S, H a ≠ none) → Y i H v H' → Same H H' ∧ ∃ x, xs[i]? = some x ∧ t.r (hid S H') v x
def IvR {α : Type} (W : Wd) (wi : TI) (r : RS) (t : Ty α) (xs : List α) : Prop := ∀ σ H, Ok W σ H → ∀ R : It → Hp → Prop, (∀ J H1, Go1 W σ H H1 → WksR J r t xs → R J H1) → wi σ H R
theorem ivR_list {vxs : List (V × α)} (hr : r ∈ W.L) (hs : SaysR r q t vxs) (ha : Ev W ta tRf q) : IvR W (iList K ta) r t (vxs.map (·.2)) := fun σ H o R k => ha σ H o _ fun v H1 g1 r1 => by
  obtain rfl : v = .ref q := r1
  have h1 := hs _ _ (g1.ok.at_ r hr)
  refine ⟨q, rfl, ⟨_, SqL.of h1.1⟩, k _ _ g1 ⟨YAt (vxs.map (·.1)), ?_, fun i H v H' S hi z _ ⟨e1, e2⟩ => ?_⟩⟩
  · rw [List.length_map, ← List.length_map (f := fun p : V × α => p.1)]
    exact walk_list.mono (fun H ⟨S, z⟩ => SqL.of (hs _ _ z).1) fun i H v H' _ _ h => h
  · subst e1
    rw [List.getElem?_map] at e2 ⊢
    cases c : vxs[i]? with
    | none => rw [c] at e2; cases e2
    | some p =>
      rw [c] at e2
      obtain rfl : p.1 = v := Option.some.inj e2
      exact ⟨Same.refl _, p.2, rfl, (hs _ _ z).2 p (List.mem_of_getElem? c)⟩
theorem evx_lcR {wi : TI} {g : TG} {as : α → List (Nat × SF)} {P : α → Bool → Prop} {R : α → β → Prop} {vs : List Nat} (hr : r ∈ W.L) (h : IvR W wi r t xs) (tg : Tgt g t as) (hi : ∀ x, ∀ p ∈ as x, p.1 ∈ vs) (hl : xs.length < sizeLine)
    (ht : ∀ D φ F x, (∀ f ∈ W.F, f ∈ F) → x ∈ xs → Etx ((W.el D φ F vs).puts (as x)) tt (P x))
    (he : ∀ D φ F x, (∀ f ∈ W.F, f ∈ F) → x ∈ xs → P x true → Evx ((W.el D φ F vs).puts (as x)) tb u (R x)) (hp : ∀ (W : Wd) x, (W.puts (as x)).H0 = W.H0 ∧ (W.puts (as x)).M = W.M ∧ (W.puts (as x)).S = W.S ∧ (W.puts (as x)).L = W.L ∧ (W.puts (as x)).F = W.F := by intros; exact ⟨rfl, rfl, rfl, rfl, rfl⟩) :
    Evx W (tLc wi g tt tb vs) (tLs K u) (LcR P R xs) := fun σ H o Q q => by
  refine h σ H o _ fun J H1 g1 wk => ?_
  intro D nD
  obtain ⟨Y, wY, hY⟩ := wk.ex
  let Wk : List β → Wd := fun ys => ⟨W.H0, W.M, D :: W.S, cell D (cLs u ys) :: W.L, ffS (hid W.S H1) :: W.F, W.G⟩
  have start : Ok (Wk []) σ (upd H1 D (.lst [])) := by
    obtain ⟨o1, up⟩ := g1.ok.cell (ψ := cLs u ([] : List β)) nD ⟨[], rfl, trivial⟩
    exact Ok.know o1 (f := ffS (hid W.S H1)) up
  have ff : ∀ ys H, Ok (Wk ys) σ H → r.p (hid (D :: W.S) H) H := fun ys H o => o.at_ r (List.mem_cons_of_mem _ hr)
  refine lc_it wY (fun k H' => ∃ ys, LcR P R (xs.take k) ys ∧ Ok (Wk ys) σ H') ⟨[], .nil, start⟩ (fun k H' _ ⟨ys, _, o'⟩ => ⟨_, ff ys H' o'⟩) ?_ ?_
  · rintro k v H0' H' hk ⟨ys, rel, o'⟩ y
    obtain ⟨e, x, hx, rx⟩ := hY k H0' v H' _ hk (ff ys H0' o') o'.al y
    have o' := o'.same e
    have xm := List.mem_of_getElem? hx
    have sub : ∀ q ∈ W.F, q ∈ ffS (hid W.S H1) :: W.F := fun q m => List.mem_cons_of_mem _ m
    refine tg _ _ H' v x (Ok.wipe (vs := vs) o') rx _ fun σ' oe ew => ?_
    refine ⟨by rw [ew vs (hi x), wipe_twice], ?_⟩
    have back : ∀ H2, Go1 (((W.el D (cLs u ys) (ffS (hid W.S H1) :: W.F) vs).puts (as x))) σ' H' H2 → Ok (Wk ys) σ H2 := fun H2 g2 => by
      obtain ⟨p1, p2, p3, p4, p5⟩ := hp (W.el D (cLs u ys) (ffS (hid W.S H1) :: W.F) vs) x
      have o2 := g2.ok
      have up := g2.up
      rw [p3] at up
      have o3 : Ok { Wk ys with G := ((W.el D (cLs u ys) (ffS (hid W.S H1) :: W.F) vs).puts (as x)).G } σ' H2 := by
        have : ((W.el D (cLs u ys) (ffS (hid W.S H1) :: W.F) vs).puts (as x)) = { Wk ys with G := ((W.el D (cLs u ys) (ffS (hid W.S H1) :: W.F) vs).puts (as x)).G } := by
          generalize ((W.el D (cLs u ys) (ffS (hid W.S H1) :: W.F) vs).puts (as x)) = Z at p1 p2 p3 p4 p5 ⊢
          cases Z
          cases p1; cases p2; cases p3; cases p4; cases p5
          rfl
        rw [← this]
        exact o2
      exact Ok.swap (W := Wk ys) o' o3 up
    refine ht D _ _ x sub xm _ _ oe _ fun b H2 pb g2 => ?_
    cases b with
    | false =>
      refine iteF ⟨ys, ?_, back H2 g2⟩
      rw [take_snoc hx]
      exact .skip rel pb
    | true =>
      refine iteT ?_
      refine he D _ _ x sub xm pb _ _ g2.ok _ fun w z H3 pz g3 rz => ?_
      have o3 := back H3 (g2.trans g3)
      obtain ⟨ob, hob, us', rfl, hus⟩ := o3.at_ _ (List.mem_cons_self ..)
      refine ⟨us', hob, ?_, ys ++ [z], ?_, ?_⟩
      · rw [hus.length]
        refine Nat.lt_of_le_of_lt (Nat.le_trans rel.len ?_) hl
        rw [List.length_take]
        omega
      · rw [take_snoc hx]
        exact .take rel pb pz
      · rw [(hp (W.el D (cLs u ys) (ffS (hid W.S H1) :: W.F) vs) x).2.2.1] at rz
        exact (o3.write (ψ := cLs u (ys ++ [z])) (o := .lst (us' ++ [w])) rfl ⟨_, rfl, hus.app (ws := [w]) (ys := [z]) ⟨rz, trivial⟩⟩).ok
  · rintro H' ⟨ys, rel, o2⟩
    rw [List.take_length] at rel
    obtain ⟨ob, hob, us', rfl, hus⟩ := o2.at_ _ (List.mem_cons_self ..)
    have up := o2.facts (ffS (hid W.S H1)) (List.mem_cons_self ..)
    have less : Same (hid (D :: W.S) H') (hid W.S H') := hid_less fun a h => List.mem_cons_of_mem _ h
    have o3 := Ok.drop (N := [D]) o2 (ok_sub g1.ok) g1.ok.ms
    have o4 : Ok W σ H' := ⟨o3.nod, o3.own, o3.at_, o3.ms, o3.al, o3.bt, o3.len, fun f m => o3.facts f (List.mem_cons_of_mem _ m), o3.slots⟩
    refine q _ ys _ rel (g1.trans ⟨o4, up.trans less⟩) ⟨D, us', rfl, ?_, All2.mono (fun _ _ => u.mono less) hus⟩
    rw [hid_of (g1.ok.off nD)]
    exact hob
theorem ev_lcfR {wi : TI} {g : TG} {as : α → List (Nat × SF)} {p : α → Bool} {f : α → β} {vs : List Nat} (hr : r ∈ W.L) (h : IvR W wi r t xs) (tg : Tgt g t as) (hi : ∀ x, ∀ p ∈ as x, p.1 ∈ vs) (hl : xs.length < sizeLine)
    (ht : ∀ D φ F x, (∀ f ∈ W.F, f ∈ F) → x ∈ xs → Et ((W.el D φ F vs).puts (as x)) tt (p x))
    (he : ∀ D φ F x, (∀ f ∈ W.F, f ∈ F) → x ∈ xs → p x = true → Ev ((W.el D φ F vs).puts (as x)) tb u (f x)) (hp : ∀ (W : Wd) x, (W.puts (as x)).H0 = W.H0 ∧ (W.puts (as x)).M = W.M ∧ (W.puts (as x)).S = W.S ∧ (W.puts (as x)).L = W.L ∧ (W.puts (as x)).F = W.F := by intros; exact ⟨rfl, rfl, rfl, rfl, rfl⟩) :
    Ev W (tLc wi g tt tb vs) (tLs K u) ((xs.filter p).map f) := fun σ H o Q q =>
  evx_lcR (P := fun x b => b = p x) (R := fun x y => y = f x) hr h tg hi hl (fun D φ F x hF hx => (ht D φ F x hF hx).toX rfl) (fun D φ F x hF hx e => (he D φ F x hF hx e.symm).x rfl) hp σ H o Q fun v ys H' r g1 rr => q v H' g1 (r.det ▸ rr)
theorem ev_lcmR {wi : TI} {g : TG} {as : α → List (Nat × SF)} {f : α → β} {vs : List Nat} (hr : r ∈ W.L) (h : IvR W wi r t xs) (tg : Tgt g t as) (hi : ∀ x, ∀ p ∈ as x, p.1 ∈ vs) (hl : xs.length < sizeLine)
    (he : ∀ D φ F x, (∀ f ∈ W.F, f ∈ F) → x ∈ xs → Ev ((W.el D φ F vs).puts (as x)) tb u (f x)) (hp : ∀ (W : Wd) x, (W.puts (as x)).H0 = W.H0 ∧ (W.puts (as x)).M = W.M ∧ (W.puts (as x)).S = W.S ∧ (W.puts (as x)).L = W.L ∧ (W.puts (as x)).F = W.F := by intros; exact ⟨rfl, rfl, rfl, rfl, rfl⟩) :
    Ev W (tLc wi g tYes tb vs) (tLs K u) (xs.map f) :=
  ev_is (ev_lcfR (p := fun _ => true) hr h tg hi hl (fun _ _ _ _ _ _ => et_yes) (fun D φ F x hF hx _ => he D φ F x hF hx) hp) (by rw [filter_yes])
theorem all2_str (H : Hp) : ∀ ns : List Str, All2 (tSt.r H) (ns.map V.str) ns
  | [] => trivial
  | _ :: ns => ⟨rfl, all2_str H ns⟩
/-- list(d) -/
theorem ev_listD (hr : r ∈ W.L) (hs : Says r q (.dK kvs)) (ha : Ev W ta tRf q) {ns : List Str} (e : kvs.map (·.1) = ns.map Sum.inr) : Ev W (tCB (fun xs H Q => ∃ (a : Addr) (kvs : List (Key × V)), xs = [.ref a] ∧ Rd H a (.dK kvs) ∧ ∀ p, H p = none → Q (.ref p) (upd H p (.lst (kvs.map fun kv => kV kv.1)))) (tCons ta tNil)) (tLs K tSt) ns := fun σ H o Q k =>
  ha σ H o _ fun v H1 g1 r1 => by
    obtain rfl : v = .ref q := r1
    refine ⟨q, kvs, rfl, .inl (hs _ _ (g1.ok.at_ r hr)), fun l nl => k _ _ (g1.trans (g1.ok.new nl)) ⟨l, _, rfl, (by rw [hid_of (g1.ok.off nl)]; exact upd_same), ?_⟩⟩
    have e2 : (kvs.map fun kv => kV kv.1) = ns.map V.str := by
      have := congrArg (List.map kV) e
      rw [List.map_map, List.map_map] at this
      exact this
    rw [e2]
    exact all2_str _ ns
end
section
variable {X : Cx} {K : PySem.W.Frag}
theorem call_list_ofK (hk : X.K = K) : CallR X (.type "list") (fun xs H Q => ∃ p ys, xs = [.ref p] ∧ (SqL K H p ys ∨ SqT K H p ys) ∧ ∀ l, H l = none → Q (.ref l) (upd H l (.lst ys))) := hk ▸ call_list_of
end
end Cs
set_option maxHeartbeats 4000000
namespace Cs
open PySem PySem.Spec PyProof.Rows L2
/-! ### the other deck: the script's list, the next cell, what is left of a cell, the state, how many draws are left -/
def StO (l : Addr) (b c e g : Int) : HO := .lst [.ref l, .int b, .int c, .int e, .int g]
def StA (K : PySem.W.Frag) (H : Hp) (d l : Addr) (ns : List Int) : Prop := ∃ b c e g : Int, H d = some (StO l b c e g) ∧ SqL K H l (ns.map V.int) ∧ l ≠ d ∧ 0 ≤ b
theorem stA_of {K : PySem.W.Frag} {H H1 : Hp} {d l : Addr} {ns : List Int} {b c e g : Int} (hl : SqL K H l (ns.map V.int)) (ne : l ≠ d) (hb : But d H H1) (h : H1 d = some (StO l b c e g)) (b0 : 0 ≤ b) : StA K H1 d l ns := ⟨b, c, e, g, h, hb.seq ne hl, ne, b0⟩
def spStateA (K : PySem.W.Frag) : Sp := fun vs H Q _ => ∃ (a : Addr) (ns : List Int), vs = [.ref a] ∧ SqL K H a (ns.map V.int) ∧ ∀ d l H', Same H H' → H d = none → H l = none → StA K H' d l ns → Q (.ref d) H'
def spDrawSA (K : PySem.W.Frag) : Sp := fun vs H Q _ => ∃ (d : Addr) (m : Int) (l : Addr) (ns : List Int), vs = [.ref d, .int m] ∧ 0 < m ∧ m.natAbs < 2 ^ 8000 ∧ StA K H d l ns ∧ ∀ v H', 0 ≤ v → v < m → But d H H' → StA K H' d l ns → Q (.int v) H'
def cSt (K : PySem.W.Frag) (d l : Addr) (ns : List Int) : CF := ⟨fun F o => ∃ b c e g, o = StO l b c e g ∧ SqL K F l (ns.map V.int) ∧ l ≠ d ∧ 0 ≤ b, fun e ⟨b, c, f, g, h, z, k⟩ => ⟨b, c, f, g, h, e.seq z, k⟩⟩
section
variable {α β γ : Type} {W : Wd} {K : PySem.W.Frag} {ta tb tc : TE} {t : Ty α} {u : Ty β} {x x' : α} {y : β} {tt uu : TT} {ar : TA} {fs : List SF} {i j : Int} {E : XK} {ts us : TS} {D : Ends} {z z' : Str} {g : TG} {as : α → List (Nat × SF)} {wi : TI}
theorem evx_drawS {m : Int} {s : Nat} {d l : Addr} {ns : List Int} (hs : W.G[s]? = some (some (tRf.is d))) (hL : cell d (cSt K d l ns) ∈ W.L) (hm : Ev W ta tInt m) (m0 : 0 < m) (mb : m.natAbs < 2 ^ 8000) :
    Evx W (tCall (spDrawSA K) [] E (tCons (tVar s) (tCons ta tNil))) tInt (fun v => 0 ≤ v ∧ v < m) := fun σ H o Q q => by
  obtain ⟨v, h1, rfl⟩ := o.slots s _ hs
  refine ⟨.ref d, h1, ?_⟩
  refine hm σ H o _ fun v H1 g1 r => ?_
  obtain ⟨ob, hob, b, c, e, gg, rfl, hl, ne, b0⟩ := g1.ok.at_ _ hL
  refine ⟨d, m, l, ns, by rw [show v = .int m from r]; rfl, m0, mb, ⟨b, c, e, gg, hob, hid_sub.seq hl, ne, b0⟩, fun w H2 w0 w1 bt ⟨b', c', e', gg', hob', _, _, b0'⟩ => ?_⟩
  have fd : fps [cell d (cSt K d l ns)] = [d] := rfl
  have bt' : Bt (fps [cell d (cSt K d l ns)]) H1 H2 := fun a o n h => bt a o (fun z => n (by rw [fd, z]; exact List.mem_cons_self ..)) h
  have hd : d ∈ W.S := (g1.ok.own d (mem_fps hL (List.mem_cons_self ..))).1
  have up : Same (hid W.S H1) (hid W.S H2) := bt'.hid (N := []) (fun a m => by rw [fd] at m; rw [List.mem_singleton.mp m]; exact hd) (fun a m => nomatch m)
  have g2 := g1.ok.after (C := [cell d (cSt K d l ns)]) (fun r m => by rw [List.mem_singleton.mp m]; exact hL) bt' (fun a m => by rw [fd] at m; rw [List.mem_singleton.mp m, hob']; simp) (fun r m => by
    rw [List.mem_singleton.mp m]
    exact ⟨_, hob', b', c', e', gg', rfl, up.seq hl, ne, b0'⟩)
  exact q _ w H2 ⟨w0, w1⟩ (g1.trans g2) rfl
/-- state = _law_state(script) -/
theorem go_state {ns : List Int} {s n : Nat} (hs : W.G[s]? = some (some ((tSc K).is ns))) (k : ∀ d l, Go ⟨W.H0, W.M, d :: W.S, cell d (cSt K d l ns) :: W.L, W.F, W.G.set n (some (tRf.is d))⟩ us D) : Go W (tSeq (tAsg (tCall (spStateA K) [] E (tCons (tVar s) tNil)) (gName n)) us) D := fun σ H o => by
  obtain ⟨v, h1, p, rfl, hq⟩ := o.slots s _ hs
  refine ⟨.ref p, h1, p, ns, rfl, ?_, fun d l H' e nd nl ⟨b, c, f, gg, hd, hl, ne, b0⟩ => ?_⟩
  · exact hid_sub.seq hq
  · have o1 := o.same e
    have nl' : l ∉ [d] ++ W.S := fun z => by
      rcases List.mem_cons.mp z with z | z
      · exact ne z
      · exact o.al l z nl
    have e2 : Bt (fps ([] : List RS)) H H' := Bt.of e
    obtain ⟨o2, _⟩ := o.change1 (C := []) (C' := [cell d (cSt K d l ns)]) (R := W.L) (N := [d]) (H' := H') rfl e2 (fun a m => by rw [List.mem_singleton.mp m]; exact ⟨nd, by rw [hd]; simp⟩) (by show [d].Nodup; simp) (fun a m => .inr m) (fun a m => nomatch m) (fun r m => by
      rw [List.mem_singleton.mp m]
      refine ⟨_, hd, b, c, f, gg, rfl, ?_, ne, b0⟩
      rcases hl with (hl | ⟨ob, hl⟩) | hl
      · exact .inl (.inl (by rw [hid_of nl']; exact hl))
      · exact .inl (.inr ⟨ob, by rw [hid_of nl']; exact hl⟩)
      · exact .inr hl)
    exact k d l _ _ (Ok.put (i := n) (f := tRf.is d) o2 rfl)
/-! ### lowest terms -/
def spLow : Sp := fun vs H Q _ => ∃ p q : Int, vs = [.int p, .int q] ∧ 0 < q ∧ p.natAbs < 2 ^ 2400 ∧ q.natAbs < 2 ^ 2400 ∧ ∀ t H', Same H H' → H t = none → H' t = some (nd (Rat.divInt p q)) → Q (.ref t) H'
theorem ev_low {p q : Int} (ha : Ev W ta tInt p) (hb : Ev W tb tInt q) (q0 : 0 < q) (hp : p.natAbs < 2 ^ 2400) (hq : q.natAbs < 2 ^ 2400) : Ev W (tCall spLow [] E (tCons ta (tCons tb tNil))) (tFr K) (Rat.divInt p q) := fun σ H o Q k =>
  ha σ H o _ fun v H1 g1 r1 => hb σ H1 g1.ok _ fun v2 H2 g2 r2 => ⟨p, q, by rw [show v = .int p from r1, show v2 = .int q from r2]; rfl, q0, hp, hq, fun a H3 e na ha =>
    k _ _ ((g1.trans g2).trans (g2.ok.go e)) ⟨a, rfl, SqT.of (by rw [hid_of (g2.ok.off na)]; exact ha)⟩⟩
theorem evx_low {P P' : Int → Prop} (ha : Evx W ta tInt P) (hb : Evx W tb tInt P') (c : ∀ p q, P p → P' q → 0 < q ∧ p.natAbs < 2 ^ 2400 ∧ q.natAbs < 2 ^ 2400) : Evx W (tCall spLow [] E (tCons ta (tCons tb tNil))) (tFr K) (fun r => ∃ p q, P p ∧ P' q ∧ r = Rat.divInt p q) := fun σ H o Q k =>
  ha σ H o _ fun v p H1 pp g1 r1 => hb σ H1 g1.ok _ fun v2 q H2 pq g2 r2 => ⟨p, q, by rw [show v = .int p from r1, show v2 = .int q from r2]; rfl, (c p q pp pq).1, (c p q pp pq).2.1, (c p q pp pq).2.2, fun a H3 e na ha =>
    k _ _ _ ⟨p, q, pp, pq, rfl⟩ ((g1.trans g2).trans (g2.ok.go e)) ⟨a, rfl, SqT.of (by rw [hid_of (g2.ok.off na)]; exact ha)⟩⟩
theorem evx_sub {P P' : Int → Prop} (ha : Evx W ta tInt P) (hb : Evx W tb tInt P') : Evx W (tOp (rI0 fun i j => .int (i - j)) ta tb) tInt (fun s => ∃ i j, P i ∧ P' j ∧ s = i - j) := fun σ H o Q q =>
  ha σ H o _ fun v i H1 p1 g1 r1 => hb σ H1 g1.ok _ fun v2 j H2 p2 g2 r2 => ⟨i, j, r1, r2, q _ _ H2 ⟨i, j, p1, p2, rfl⟩ (g1.trans g2) rfl⟩
end
end Cs
set_option maxHeartbeats 4000000
namespace Cs
open PySem PySem.Spec PyProof.Rows L2
/-! ### list(d.values()) -/
/-- list(d.values()), d a dict -/
def tListVals (td : TE) : TE := fun σ H Q => td σ H fun x H1 => ∃ (a : Addr) (kvs : List (Key × V)), x = .ref a ∧ H1 a = some (.dK kvs) ∧ ∀ q, H1 q = none → Q (.ref q) (upd H1 q (.lst (kvs.map (·.2))))
theorem vals_at : ∀ {kvs : List (Key × V)} {vs : List (Key × Value)} {us : List Value}, KV kvs vs → us.length = vs.length → (∀ (j : Nat) (v : Value), us[j]? = some v → ∃ k : Key, vs[j]? = some (k, v)) → Vals (kvs.map (·.2)) us := fun {kvs vs us} r hl h => by
  have e : us = vs.map (·.2) := by
    refine List.ext_getElem? fun j => ?_
    rw [List.getElem?_map]
    cases c : us[j]? with
    | none =>
      rw [List.getElem?_eq_none_iff] at c
      rw [List.getElem?_eq_none (by omega)]
      rfl
    | some v =>
      obtain ⟨k, hk⟩ := h j v c
      rw [hk]
      rfl
  rw [e]
  clear h hl e
  unfold KV at r
  induction r with
  | nil => exact .nil
  | cons q _ ih => exact .cons q.2 ih
theorem pe_listVals {X : Cx} {o : Expr} {td : TE} {p pos apos mpos : Pos} (hc : X.calm = true) (hg : Gl X "list") (hm : X.mg "list" = none) (hd : PE X o td) (hbase : attributeBase o "values" X.env (eval o X.env) = eval o X.env := by rfl) (hline : (apos.endLine == mpos.line) = true := by rfl)
    (hs : starEach [.Call (.Attribute o "values" apos) [] [] mpos] X.env = (false, eval (.Call (.Attribute o "values" apos) [] [] mpos) X.env) :: starEach [] X.env := by rfl) : PE X (.Call (.Name "list" p) [.Call (.Attribute o "values" apos) [] [] mpos] [] pos) (tListVals td) := by
  refine ⟨fun ps s σ H Q I h => ?_⟩
  refine Call_ (ld_blt I hg hm boot_list (PyProof.Rows.callWith_type1 (args_cons ?_ hs) hs rfl))
  refine wpAny_Call_method (T := "dict") (id := "dict.values") hbase rfl hline F.plainAttrs_dict F.slot_dict_values F.type_dict_values (thn (hd.run ps s σ H _ I h) fun u s1 => ?_)
  rintro ⟨x, H1, I1, rx, a, kvs, rfl, ha, q⟩
  obtain rfl : u = Value.ref a := rx
  obtain ⟨z, lo, vs, rel, dof⟩ := dk_of I1.hok ha
  obtain ⟨ep, dat⟩ := dof.dictAt
  refine ⟨dof.typeIs, dof.mapOf.noDict, ?_⟩
  show wpAny _ _ (callWith mpos (.builtin "dict.values") [.ref a] [] []) _ X.xe s1
  have up : ∀ b ob, s1.heap.get? b = some ob → (s1.heap.push { cls := .type "dict_values", data := .fields #[.ref a] }).get? b = some ob := fun b ob e => Heap.get?_push_of_some _ e
  have I2 : Inv X ps σ H1 { s1 with heap := s1.heap.push { cls := .type "dict_values", data := .fields #[.ref a] } } := I1.kept (t' := s1.toks) up
  refine method_meetsIn F.slot_dict_values F.entry_dict_values rfl (PySem.evalArgs_none ⟨rfl, dof.typeIs, F.args_dict_values_1 _, _, meets_dict_values (mixKind X.prog X.w) a lo, ⟨vs, dof⟩, args_nil ?_⟩)
  refine PySem.W.kdl_call (PySem.W.kdl_values (knd := mixKind X.prog X.w) (r := s1.heap.objs.size) (d := a) (kvs := vs) (ep := ep)) (I1.ok.hd hc) ⟨⟨_, Heap.get?_push_size _ rfl, rfl, rfl⟩, dat.push _⟩ (by rw [← Paired.length rel]; exact z) fun h' tk acc c' hk hD hacc => ?_
  have hv : Vals (kvs.map (·.2)) acc.toList := vals_at rel (by rw [Array.length_toList]; exact hacc.1) fun j v e => hacc.2 j v (by rw [← Array.getElem?_toList]; exact e)
  refine ⟨.ref _, upd H1 _ (.lst (kvs.map (·.2))), I2.laid (t' := tk) hk (Nat.le_refl _) (show ObjOk X.prog X.w _ _ _ (.lst (kvs.map (·.2))) from ⟨by rw [List.length_map]; exact z, acc.toList, c', hv, by rw [Array.toArray_toList]; exact hD⟩), rfl, q _ (I2.hok.fresh (Nat.le_refl _))⟩
end Cs
set_option maxHeartbeats 4000000
namespace Cs
open PySem PySem.Spec PyProof.Rows L2
/-! ### a dict by names, a cell of its own -/
abbrev Tag (α : Type) := Str × V × α
def mapKv {α : Type} (ms : List (Tag α)) : List (Key × V) := ms.map fun m => (Sum.inr m.1, m.2.1)
def cMap {α : Type} (t : Ty α) (ms : List (Tag α)) : CF := ⟨fun F o => o = .dK (mapKv ms) ∧ ∀ m ∈ ms, t.r F m.2.1 m.2.2, fun e ⟨h, g⟩ => ⟨h, fun m mm => t.mono e (g m mm)⟩⟩
def tagOf {α : Type} (ms : List (Tag α)) (z : Str) : Option (Tag α) := ms.find? fun m => decide (m.1 = z)
def putM {α : Type} (ms : List (Tag α)) (z : Str) (v : V) (x : α) : List (Tag α) := if (ms.any fun m => decide (m.1 = z)) = true then ms.map (fun m => if m.1 = z then (m.1, v, x) else m) else ms ++ [(z, v, x)]
section
variable {α β γ δ : Type} {W : Wd} {K : PySem.W.Frag} {ta tb tc td ty tx : TE} {t : Ty α} {u : Ty β} {x x' : α} {y : β} {tt uu : TT} {ar ak : TA} {fs : List SF} {i : Nat} {E : XK} {ts us vs : TS} {D : Ends} {p : Addr} {z : Str} {ms : List (Tag α)}
theorem map_get : ∀ {ms : List (Tag α)} {z : Str}, valV (mapKv ms) (Sum.inr z) = (tagOf ms z).map fun m => m.2.1
  | [], _ => rfl
  | m :: ms, z => by
    have ih := map_get (ms := ms) (z := z)
    unfold valV mapKv tagOf at ih ⊢
    rw [List.map_cons, List.find?_cons, List.find?_cons]
    by_cases q : m.1 = z
    · simp [q]
    · simp only [Sum.inr.injEq, q, decide_false]
      exact ih
theorem map_put {ms : List (Tag α)} {z : Str} {v : V} {x : α} : putK (mapKv ms) (Sum.inr z) v = mapKv (putM ms z v x) := by
  unfold putK putM mapKv
  have e : ((ms.map fun m => ((Sum.inr m.1 : Key), m.2.1)).any fun kv => decide (kv.1 = Sum.inr z)) = ms.any fun m => decide (m.1 = z) := by
    rw [List.any_map]
    congr 1
    funext m
    simp
  rw [e]
  split
  · rw [List.map_map, List.map_map]
    refine List.map_congr_left fun m _ => ?_
    by_cases q : m.1 = z
    · simp [q]
    · simp [q]
  · rw [List.map_append]
    rfl
/-- d = {} -/
theorem go_newM (t : Ty α) (k : ∀ p, p ∉ W.S → Go ⟨W.H0, W.M, p :: W.S, cell p (cMap t []) :: W.L, W.F, W.G.set i (some (tRf.is p))⟩ us D) : Go W (tSeq (tAsg tDNewK (gName i)) us) D := fun σ H o =>
  fun p np => k p (o.off np) _ _ (Ok.put (i := i) (f := tRf.is p) (o.cell (ψ := cMap t []) np ⟨rfl, fun m mm => nomatch mm⟩).1 rfl)
/-- d.get(z, e) -/
theorem ev_getM (hL : cell p (cMap t ms) ∈ W.L) (hd : Ev W td tRf p) (ha : Ev W ty tSt z) (hx : Ev W tx t x) : Ev W (tDGet2 td ty tx) t (((tagOf ms z).map fun m => m.2.2).getD x) := fun σ H o Q k =>
  hd σ H o _ fun w H1 g1 r1 => by
    obtain rfl : w = .ref p := r1
    obtain ⟨o1, ho1, rfl, _⟩ := g1.ok.at_ _ hL
    refine ⟨p, rfl, ?_, ha σ H1 g1.ok _ fun v H2 g2 r2 => hx σ H2 g2.ok _ fun v3 H3 g3 r3 => ?_⟩
    · exact .inl ⟨_, .inl ho1⟩
    · obtain ⟨o3, ho3, rfl, ht⟩ := g3.ok.at_ _ hL
      refine ⟨(tagOf ms z).map fun m => m.2.1, ?_, ?_⟩
      · rw [show v = kV (Sum.inr z) from r2, ← map_get]
        exact DGet.k ho3
      · cases q : tagOf ms z with
        | none =>
          rw [q] at k
          exact k _ H3 ((g1.trans g2).trans g3) r3
        | some m =>
          rw [q] at k
          exact k _ H3 ((g1.trans g2).trans g3) (ht m (List.mem_of_find?_eq_some q))
/-- d[z] = e -/
theorem go_putM {s : Nat} {R : List RS} {P : α → Prop} (hs : W.G[s]? = some (some (tRf.is p))) (hL : W.L.Perm (cell p (cMap t ms) :: R)) (ha : Ev W ty tSt z) (hb : Evx W tb t P) (hl : ms.length < sizeLine) (k : ∀ v x, P x → ∀ σ H, Ok { W with L := cell p (cMap t (putM ms z v x)) :: R } σ H → D.nx σ H) : Go W (sDPut (tVar s) ty tb) D := fun σ H o =>
  hb σ H o _ fun v x H1 px g1 r1 => by
    obtain ⟨w, h1, rfl⟩ := g1.ok.slots s _ hs
    refine ⟨.ref p, h1, ha σ H1 g1.ok _ fun y H2 g2 ry => ?_⟩
    obtain ⟨ob, hob, rfl, ht⟩ := g2.ok.at_ (cell p (cMap t ms)) (hL.mem_iff.mpr (List.mem_cons_self ..))
    refine ⟨p, upd H2 p (.dK (mapKv (putM ms z v x))), rfl, ?_, k v x px _ _ ((g2.ok.perm hL).write (ψ := cMap t (putM ms z v x)) (o := .dK (mapKv (putM ms z v x))) rfl ⟨rfl, fun m mm => ?_⟩).ok⟩
    · rw [show y = kV (Sum.inr z) from ry, ← map_put]
      exact DPut.k hob (by unfold mapKv; rw [List.length_map]; exact hl)
    · have r1 := t.mono g2.up r1
      unfold putM at mm
      split at mm
      · obtain ⟨m0, mm0, rfl⟩ := List.mem_map.mp mm
        by_cases q : m0.1 = z
        · rw [if_pos q]; exact r1
        · rw [if_neg q]; exact ht m0 mm0
      · rcases List.mem_append.mp mm with mm | mm
        · exact ht m mm
        · rw [List.mem_singleton.mp mm]; exact r1
/-- list(d.values()) -/
theorem ev_valsM (hL : cell p (cMap t ms) ∈ W.L) (hd : Ev W td tRf p) : Ev W (tListVals td) (tLs K t) (ms.map fun m => m.2.2) := fun σ H o Q k =>
  hd σ H o _ fun w H1 g1 r1 => by
    obtain rfl : w = .ref p := r1
    obtain ⟨o1, ho1, rfl, ht⟩ := g1.ok.at_ _ hL
    refine ⟨p, mapKv ms, rfl, ho1, fun l nl => k _ _ (g1.trans (g1.ok.new nl)) ⟨l, _, rfl, (by rw [hid_of (g1.ok.off nl)]; exact upd_same), All2.mono (fun _ _ => t.mono (g1.ok.new nl).up) ?_⟩⟩
    have e : (mapKv ms).map (·.2) = (ms.map fun m => m.2).map (·.1) := by unfold mapKv; rw [List.map_map, List.map_map]; rfl
    have e2 : (ms.map fun m => m.2.2) = (ms.map fun m => m.2).map (·.2) := by rw [List.map_map]; rfl
    rw [e, e2]
    exact all2_tags fun q mq => by
      obtain ⟨m, mm, rfl⟩ := List.mem_map.mp mq
      exact ht m mm
/-! ### for a, b in d.items() -/
/-- the dict while it is walked -/
def cFz {α : Type} (t : Ty α) (od : Obj) (ms : List (Tag α)) : CF := ⟨fun F o => o = .frz od (.dK (mapKv ms)) ∧ ∀ m ∈ ms, t.r F m.2.1 m.2.2, fun e ⟨h, g⟩ => ⟨h, fun m mm => t.mono e (g m mm)⟩⟩
theorem wks_items {p : Addr} {od : Obj} {ms : List (Tag α)} : WksR (Iti p od (mapKv ms)) (cell p (cFz t od ms)) (tPr K tSt t) (ms.map fun m => (m.1, m.2.2)) := ⟨fun i H x H' => ∃ T k v, (mapKv ms)[i]? = some (k, v) ∧ x = .ref T ∧ H T = none ∧ H' = upd H T (.tup [kV k, v]), by
    rw [List.length_map, ← List.length_map (f := fun m : Tag α => ((Sum.inr m.1 : Key), m.2.1))]
    refine ⟨fun i H hi ⟨S, o, ho, e, _⟩ => ⟨by rw [← e]; exact ho, hi⟩, fun H ⟨S, o, ho, e, _⟩ => ⟨by rw [← e]; exact ho, Nat.le_refl _⟩, fun i H x H' _ _ y => y⟩, by
    rintro i H v H' S hi ⟨o, ho, rfl, ht⟩ al ⟨T, k, w, h1, rfl, nT, rfl⟩
    unfold mapKv at h1
    rw [List.getElem?_map] at h1
    rw [List.getElem?_map]
    cases c : ms[i]? with
    | none => rw [c] at h1; cases h1
    | some m =>
      rw [c] at h1
      obtain ⟨rfl, rfl⟩ := Prod.mk.inj (Option.some.inj h1)
      have off : T ∉ S := fun z => al T z nT
      have up : Same (hid S H) (hid S (upd H T (.tup [kV (Sum.inr m.1), m.2.1]))) := hid_same (Same.new nT)
      exact ⟨Same.new nT, _, rfl, T, V.str m.1, m.2.1, rfl, SqT.of (by rw [hid_of off]; exact upd_same), rfl, t.mono up (ht m (List.mem_of_getElem? c))⟩⟩
theorem for_coreR {ι : Type} {xs : List α} {J : It} {r : RS} {g : TG} {as : α → List (Nat × SF)} {σ : L2.St} {H1 : Hp} (wk : WksR J r t xs) (tg : Tgt g t as) (JJ : Nat → ι → Wd) (Pv : Nat → ι → Prop) (hr : ∀ k c, r ∈ (JJ k c).L)
    (start : ∃ c, Pv 0 c ∧ Ok (JJ 0 c) σ H1)
    (hs : ∀ k c x, xs[k]? = some x → Pv k c → Go ((JJ k c).puts (as x)) ts { D with nx := fun σ H => ∃ c', Pv (k + 1) c' ∧ Ok (JJ (k + 1) c') σ H, ct := fun σ H => ∃ c', Pv (k + 1) c' ∧ Ok (JJ (k + 1) c') σ H, bk := D.nx })
    (hd : ∀ c, Pv xs.length c → ∀ σ H, Ok (JJ xs.length c) σ H → D.nx σ H) :
    ∃ Wm : Nat → Nat → L2.St → Hp → Prop, (∃ m, Wm 0 m σ H1) ∧ ∀ i m σ H, Wm i m σ H →
      (J.stop i H ∧ D.nx σ H) ∨ (J.go i H ∧ ∃ N : L2.St → Hp → Prop, (∀ σ' H', N σ' H' → ∃ m', m' < m ∧ Wm (i + 1) m' σ' H') ∧ ∀ x H', J.yld i H x H' → g x σ H' fun σ2 H2 => ts { D with nx := N, ct := N, bk := D.nx } σ2 H2) := by
  obtain ⟨Y, wY, hY⟩ := wk.ex
  have ff : ∀ k c σ H, Ok (JJ k c) σ H → r.p (hid (JJ k c).S H) H := fun k c σ H o => o.at_ r (hr k c)
  refine for_it wY (fun k σ H => ∃ c, Pv k c ∧ Ok (JJ k c) σ H) start (fun k σ H _ ⟨c, _, o⟩ => ⟨_, ff k c σ H o⟩) ?_ ?_
  · rintro k v σ H H' hk ⟨c, pc, o⟩ y
    obtain ⟨e, x, hx, rx⟩ := hY k H v H' _ hk (ff k c σ H o) o.al y
    exact tg _ σ H' v x (o.same e) rx _ fun σ' o' _ => hs k c x hx pc σ' H' o'
  · rintro σ H ⟨c, pc, o⟩
    exact hd c pc σ H o
theorem go_itemsM {ι : Type} {s i j : Nat} {p : Addr} {ms : List (Tag α)} {R : List RS} (hs : W.G[s]? = some (some (tRf.is p))) (hL : W.L.Perm (cell p (cMap t ms) :: R)) (J : Nat → ι → List RS × List (Option SF)) (Pv : Nat → ι → Prop) (c0 : ι) (p0 : Pv 0 c0)
    (w0 : ∀ od, Wk { W with L := cell p (cFz t od ms) :: R } { W with L := cell p (cFz t od ms) :: (J 0 c0).1, G := (J 0 c0).2 })
    (hb : ∀ od k c m (B : L2.St → Hp → Prop) (V' : VK), ms[k]? = some m → Pv k c → Go (Wd.puts ⟨W.H0, W.M, W.S, cell p (cFz t od ms) :: (J k c).1, W.F, (J k c).2⟩ [(i, tSt.is m.1), (j, t.is m.2.2)]) ts
      ⟨fun σ H => ∃ c', Pv (k + 1) c' ∧ Ok ⟨W.H0, W.M, W.S, cell p (cFz t od ms) :: (J (k + 1) c').1, W.F, (J (k + 1) c').2⟩ σ H, V', B, fun σ H => ∃ c', Pv (k + 1) c' ∧ Ok ⟨W.H0, W.M, W.S, cell p (cFz t od ms) :: (J (k + 1) c').1, W.F, (J (k + 1) c').2⟩ σ H⟩)
    (hd : ∀ c, Pv ms.length c → ∀ σ H, Ok ⟨W.H0, W.M, W.S, cell p (cMap t ms) :: (J ms.length c).1, W.F, (J ms.length c).2⟩ σ H → D.nx σ H) :
    Go W (tLock (tFor (iItems (tVar s)) (gTup K 2 (gCons (gName i) (gCons (gName j) gNil))) ts)) D := fun σ H o => by
  obtain ⟨w, h1, rfl⟩ := o.slots s _ hs
  obtain ⟨ob, hob, rfl, ht⟩ := o.at_ (cell p (cMap t ms)) (hL.mem_iff.mpr (List.mem_cons_self ..))
  refine ⟨p, .dK (mapKv ms), hob, trivial, fun od => ?_⟩
  have o1 := ((o.perm hL).write (ψ := cFz t od ms) (o := .frz od (.dK (mapKv ms))) rfl ⟨rfl, ht⟩).ok
  have o2 := w0 od _ _ o1
  refine ⟨.ref p, h1, p, od, mapKv ms, rfl, upd_same, ?_⟩
  refine for_coreR (wks_items (t := t)) tgt_pair (fun k c => ⟨W.H0, W.M, W.S, cell p (cFz t od ms) :: (J k c).1, W.F, (J k c).2⟩) Pv (fun _ _ => List.mem_cons_self ..) ⟨c0, p0, o2⟩ (fun k c x hx pc => ?_) (fun c pc σ' H' o' => ?_)
  · rw [List.getElem?_map] at hx
    cases q : ms[k]? with
    | none => rw [q] at hx; cases hx
    | some m =>
      rw [q] at hx
      obtain rfl : (m.1, m.2.2) = x := Option.some.inj hx
      exact hb od k c m _ _ q pc
  · rw [List.length_map] at pc o'
    obtain ⟨ob', hob', rfl, ht'⟩ := o'.at_ (cell p (cFz t od ms)) (List.mem_cons_self ..)
    exact ⟨hob', hd c pc _ _ (o'.write (ψ := cMap t ms) (o := .dK (mapKv ms)) rfl ⟨rfl, ht'⟩).ok⟩
/-! ### a list of the thing grows -/
theorem go_appR {to te : TE} {r : RS} {r' : V → RS} {q : Addr} {R : List RS} {vxs : List (V × α)} {nx : L2.St → Hp → Prop} (hL : W.L.Perm (r :: R)) (ho : Ev W to tRf q) (hs : SaysR r q t vxs) (ha : Ev W te t x) (hl : vxs.length < sizeLine) (fp : ∀ v, (r' v).fp = r.fp) (hq : q ∈ r.fp)
    (up : ∀ v F H, r.fp.Nodup → r.p F H → t.r F v x → (r' v).p F (upd H q (.lst (vxs.map (·.1) ++ [v])))) (hD : D.nx = nx) (k : ∀ v σ H, Ok { W with L := r' v :: R } σ H → nx σ H) : Go W (tDrop (tBM K "list" rAppend to (tCons te tNil))) D := fun σ H o => ho σ H o _ fun w H1 g1 r1 => by
  obtain rfl : w = .ref q := r1
  have mem : r ∈ W.L := hL.mem_iff.mpr (List.mem_cons_self ..)
  refine ⟨.inl ⟨rfl, _, SqL.of (hs _ _ (g1.ok.at_ r mem)).1⟩, ha σ H1 g1.ok _ fun v H2 g2 r2 => ?_⟩
  have rd := g2.ok.at_ r mem
  refine ⟨q, _, v, rfl, rfl, (hs _ _ rd).1, by rw [List.length_map]; exact hl, ?_⟩
  have o2 := g2.ok.perm hL
  have fc : fps [r] = r.fp := List.append_nil _
  have fc' : fps [r' v] = r.fp := by rw [← fp v]; exact List.append_nil _
  have qS : q ∈ W.S := (g2.ok.own q (mem_fps mem hq)).1
  have eh : hid W.S (upd H2 q (.lst (vxs.map (·.1) ++ [v]))) = hid W.S H2 := hid_upd qS
  have o3 := (o2.change1 (C := [r]) (C' := [r' v]) (R := R) (N := []) (H' := upd H2 q (.lst (vxs.map (·.1) ++ [v]))) rfl (fun b ob nb hb => ?_) (fun a m => nomatch m) ?_ (fun a m => .inl (by rw [fc]; rw [fc'] at m; exact m)) (fun a m => ?_) (fun r0 m => ?_)).1
  · show D.nx σ _
    rw [hD]
    exact k v σ _ o3
  · rw [upd_ne (fun e => nb (by rw [e, fc]; exact hq))]
    exact hb
  · rw [fc', ← fc]
    exact (nodup_app.mp (show (fps ([r] ++ R)).Nodup from o2.nod)).1
  · by_cases e : a = q
    · rw [e, upd_same]; simp
    · rw [upd_ne e]
      rw [fc] at m
      exact g2.ok.al a (g2.ok.own a (mem_fps mem m)).1
  · rw [List.mem_singleton.mp m]
    show (r' v).p (hid W.S (upd H2 q (.lst (vxs.map (·.1) ++ [v])))) (upd H2 q (.lst (vxs.map (·.1) ++ [v])))
    rw [eh]
    exact up v _ _ (by rw [← fc]; exact (nodup_app.mp (show (fps ([r] ++ R)).Nodup from o2.nod)).1) rd r2
end
end Cs
set_option maxHeartbeats 4000000
namespace Cs
open PySem PySem.Spec PyProof.Rows L2
section
variable {α β γ δ : Type} {W : Wd} {K : PySem.W.Frag} {ta tb tc td ty tx : TE} {t : Ty α} {u : Ty β} {x x' : α} {y : β} {tt uu : TT} {ar ak : TA} {fs : List SF} {i : Nat} {E : XK} {ts us vs : TS} {D : Ends} {g : TG} {as : α → List (Nat × SF)} {wi : TI} {xs : List α}
/-- xs[:n], n drawn -/
theorem evx_take {P : Int → Prop} (h : Ev W ta (tLs K t) xs) (hb : Evx W tb tInt P) (h0 : ∀ n, P n → 0 ≤ n) : Evx W (tSl (rSlL K) ta tNoPart (tPart tb)) (tLs K t) (fun ys => ∃ n, P n ∧ ys = xs.take n.toNat) := fun σ H o Q q =>
  h σ H o _ fun v H1 g1 r1 => hb σ H1 g1.ok _ fun v2 n H2 pn g2 r2 => by
    obtain ⟨p, vs, rfl, s, al⟩ := (tLs K t).mono g2.up r1
    refine ⟨n, r2, p, vs, rfl, SqL.of (hid_sub _ _ s), fun l nl => q _ (xs.take n.toNat) _ ⟨n, pn, rfl⟩ ((g1.trans g2).trans (g2.ok.new nl)) ⟨l, vs.take n.toNat, rfl, ?_, All2.mono (fun _ _ => t.mono (g2.ok.new nl).up) (al.take _)⟩⟩
    rw [hid_of (g2.ok.off nl), upd_same]
    have e : cutV vs none (some n) = vs.take n.toNat := by
      have := h0 n pn
      unfold cutV HT.sIx
      simp only [List.drop_zero, Nat.sub_zero]
      rw [if_neg (by omega)]
      rcases Nat.le_total n.toNat vs.length with z | z
      · rw [Nat.min_eq_left z]
      · rw [Nat.min_eq_right z, List.take_length, List.take_of_length_le z]
    rw [e]
/-- a for whose things come with new addresses -/
theorem go_forS {ι : Type} (h : Iv W wi t xs) (tg : Tgt g t as) (J : Nat → ι → List Addr × List RS × List (Option SF)) (Pv : Nat → ι → Prop) (c0 : ι) (p0 : Pv 0 c0) (s0 : (J 0 c0).1 = W.S) (w0 : Wk W { W with L := (J 0 c0).2.1, G := (J 0 c0).2.2 })
    (hs : ∀ k c x (f : FF), xs[k]? = some x → Pv k c → Go (Wd.puts ⟨W.H0, W.M, (J k c).1, (J k c).2.1, f :: W.F, (J k c).2.2⟩ (as x)) ts
      { D with nx := fun σ H => ∃ c', Pv (k + 1) c' ∧ Ok ⟨W.H0, W.M, (J (k + 1) c').1, (J (k + 1) c').2.1, f :: W.F, (J (k + 1) c').2.2⟩ σ H, ct := fun σ H => ∃ c', Pv (k + 1) c' ∧ Ok ⟨W.H0, W.M, (J (k + 1) c').1, (J (k + 1) c').2.1, f :: W.F, (J (k + 1) c').2.2⟩ σ H, bk := D.nx })
    (hd : ∀ c, Pv xs.length c → ∀ σ H, Ok ⟨W.H0, W.M, (J xs.length c).1, (J xs.length c).2.1, W.F, (J xs.length c).2.2⟩ σ H → D.nx σ H) :
    Go W (tFor wi g ts) D := fun σ H o => h σ H o _ fun Ji H1 f g1 fp wk =>
  for_core wk tg (fun k c => ⟨W.H0, W.M, (J k c).1, (J k c).2.1, f :: W.F, (J k c).2.2⟩) Pv (fun _ _ => rfl) ⟨c0, p0, by rw [s0]; exact Ok.know (w0 _ _ g1.ok) fp⟩ (fun k c x hx pc => hs k c x f hx pc) fun c pc σ' H' o' => hd c pc σ' H'
    ⟨o'.nod, o'.own, o'.at_, o'.ms, o'.al, o'.bt, o'.len, fun q m => o'.facts q (List.mem_cons_of_mem _ m), o'.slots⟩
/-- the empty list is of every kind -/
theorem nil_to {H : Hp} {v : V} (h : (tLs K t).r H v []) : (tLs K u).r H v [] := by
  obtain ⟨p, vs, e, s, al⟩ := h
  cases vs with
  | nil => exact ⟨p, [], e, s, trivial⟩
  | cons _ _ => exact al.elim
theorem ev_nilTo (h : Ev W ta (tLs K t) []) : Ev W ta (tLs K u) [] := ev_to h fun _ _ r => nil_to r
/-- a thing is no longer looked at -/
theorem ok_less {H0 : Hp} {M S : List Addr} {r : RS} {R : List RS} {F : List FF} {G : List (Option SF)} {σ : L2.St} {H : Hp} (o : Ok ⟨H0, M, S, r :: R, F, G⟩ σ H) : Ok ⟨H0, M, S, R, F, G⟩ σ H :=
  ⟨(nodup_app.mp (show (fps ([r] ++ R)).Nodup from o.nod)).2.1, fun a m => o.own a (by obtain ⟨q, m1, m2⟩ := of_fps m; exact mem_fps (List.mem_cons_of_mem _ m1) m2), fun q m => o.at_ q (List.mem_cons_of_mem _ m), o.ms, o.al, o.bt, o.len, o.facts, o.slots⟩
def cAny : CF := ⟨fun _ _ => True, fun _ h => h⟩
/-- o.m().append(e): the list was given as a thing of its own; behind it nobody looks at it -/
theorem go_appG {to te : TE} {P : Addr → Wd → Prop} {nx : L2.St → Hp → Prop} (h : Evm W to tRf P) (hD : D.nx = nx) (k : ∀ q W', P q W' → ∃ (δ : Type) (tt : Ty δ) (ys : List δ) (R : List RS), W'.L.Perm (cell q (cLs tt ys) :: R) ∧ ys.length < sizeLine ∧ Ev W' te t x ∧ ∀ σ H, Ok { W' with L := R } σ H → nx σ H) : Go W (tDrop (tBM K "list" rAppend to (tCons te tNil))) D := fun σ H o => h σ H o _ fun v q W' H1 p o1 r1 => by
  obtain rfl : v = .ref q := r1
  obtain ⟨δ, tt, ys, R, hL, hl, he, hk⟩ := k q W' p
  have mem : cell q (cLs tt ys) ∈ W'.L := hL.mem_iff.mpr (List.mem_cons_self ..)
  obtain ⟨ob, hob, vs, rfl, _⟩ := o1.at_ _ mem
  refine ⟨.inl ⟨rfl, vs, SqL.of hob⟩, he σ H1 o1 _ fun w H2 g2 r2 => ?_⟩
  obtain ⟨ob, hob, ws, rfl, al⟩ := g2.ok.at_ _ mem
  refine ⟨q, ws, w, rfl, rfl, hob, by rw [al.length]; exact hl, ?_⟩
  rw [hD]
  exact hk _ _ (ok_less ((g2.ok.perm hL).write (ψ := cAny) (o := .lst (ws ++ [w])) rfl trivial).ok)
theorem go_forSx {ι : Type} {X : List α → Prop} (h : Ivx W wi t X) (tg : Tgt g t as) (J : Nat → ι → List Addr × List RS × List (Option SF)) (Pv : Nat → ι → Prop) (c0 : ι) (p0 : Pv 0 c0) (s0 : (J 0 c0).1 = W.S) (w0 : Wk W { W with L := (J 0 c0).2.1, G := (J 0 c0).2.2 })
    (hs : ∀ xs k c x (f : FF), X xs → xs[k]? = some x → Pv k c → Go (Wd.puts ⟨W.H0, W.M, (J k c).1, (J k c).2.1, f :: W.F, (J k c).2.2⟩ (as x)) ts
      { D with nx := fun σ H => ∃ c', Pv (k + 1) c' ∧ Ok ⟨W.H0, W.M, (J (k + 1) c').1, (J (k + 1) c').2.1, f :: W.F, (J (k + 1) c').2.2⟩ σ H, ct := fun σ H => ∃ c', Pv (k + 1) c' ∧ Ok ⟨W.H0, W.M, (J (k + 1) c').1, (J (k + 1) c').2.1, f :: W.F, (J (k + 1) c').2.2⟩ σ H, bk := D.nx })
    (hd : ∀ xs c, X xs → Pv xs.length c → ∀ σ H, Ok ⟨W.H0, W.M, (J xs.length c).1, (J xs.length c).2.1, W.F, (J xs.length c).2.2⟩ σ H → D.nx σ H) :
    Go W (tFor wi g ts) D := fun σ H o => h σ H o _ fun xs Ji H1 f px g1 fp wk =>
  for_core wk tg (fun k c => ⟨W.H0, W.M, (J k c).1, (J k c).2.1, f :: W.F, (J k c).2.2⟩) Pv (fun _ _ => rfl) ⟨c0, p0, by rw [s0]; exact Ok.know (w0 _ _ g1.ok) fp⟩ (fun k c x hx pc => hs xs k c x f px hx pc) fun c pc σ' H' o' => hd xs c px pc σ' H'
    ⟨o'.nod, o'.own, o'.at_, o'.ms, o'.al, o'.bt, o'.len, fun q m => o'.facts q (List.mem_cons_of_mem _ m), o'.slots⟩
end
/-! ### places in short lists -/
theorem in0 {α : Type} {a : α} {l : List α} : a ∈ a :: l := List.mem_cons_self ..
theorem in1 {α : Type} {a b : α} {l : List α} : a ∈ b :: a :: l := List.mem_cons_of_mem _ in0
theorem in2 {α : Type} {a b c : α} {l : List α} : a ∈ b :: c :: a :: l := List.mem_cons_of_mem _ in1
theorem in3 {α : Type} {a b c d : α} {l : List α} : a ∈ b :: c :: d :: a :: l := List.mem_cons_of_mem _ in2
theorem in4 {α : Type} {a b c d e : α} {l : List α} : a ∈ b :: c :: d :: e :: a :: l := List.mem_cons_of_mem _ in3
theorem in5 {α : Type} {a b c d e f : α} {l : List α} : a ∈ b :: c :: d :: e :: f :: a :: l := List.mem_cons_of_mem _ in4
theorem su0 {α : Type} {a : α} {l : List α} : [a].Sublist (a :: l) := List.singleton_sublist.mpr in0
theorem su1 {α : Type} {a b : α} {l : List α} : [a].Sublist (b :: a :: l) := List.singleton_sublist.mpr in1
theorem su2 {α : Type} {a b c : α} {l : List α} : [a].Sublist (b :: c :: a :: l) := List.singleton_sublist.mpr in2
theorem su3 {α : Type} {a b c d : α} {l : List α} : [a].Sublist (b :: c :: d :: a :: l) := List.singleton_sublist.mpr in3
end Cs
set_option maxHeartbeats 4000000
namespace Cs
open PySem PySem.Spec PyProof.Rows L2
/-! ### calls that raise -/
def CalX (P : Program) (w : World) (K : PySem.W.Frag) (mg : Str → Option Value) (base : Heap) (k : Nat) (x : Str) (ps : List Str) (sp : Sp) : Prop :=
  ∃ (f : Addr) (fd : FuncData), FnOk P w K mg base (L2.CX P w) k f fd ps sp ∧ mg x = some (.ref f) ∧ PySem.W.keepIn K (.ref f) = true ∧ Binds K fd ps []
section
variable {P : Program} {w : World} {K : PySem.W.Frag} {mg : Str → Option Value} {base : Heap} {k j : Nat} {x : Str} {ps : List Str} {sp : Sp} {st : Stmt}
theorem CalX.of (F : FunG K mg x st ps) (h : ∀ {f : Addr} {fd : FuncData}, Fun K x x st f fd → FnOk P w K mg base (L2.CX P w) k f fd ps sp) : CalX P w K mg base k x ps sp := by
  obtain ⟨f, fd, F, g, b⟩ := F
  exact ⟨f, fd, h F, g, F.kp, b⟩
theorem CalX.mono (c : CalX P w K mg base j x ps sp) (h : j ≤ k) : CalX P w K mg base k x ps sp := by
  obtain ⟨f, fd, F, g⟩ := c
  exact ⟨f, fd, F.mono h, g⟩
end
section
variable {X : Cx} {k : Nat} {x : Str} {ps : List Str} {sp : Sp} {p pos : Pos} {e : Expr} {es : List Expr} {t : TA}
theorem pe_calX {E : XK} (c : CalX X.prog X.w X.K X.mg X.base k x ps sp) (hr : Room k X.A) (hg : Gl X x) (hx : Passes (L2.CX X.prog X.w) X E) (ha : PA X (e :: es) t) (hdb : (x == ("__debug__" : Str)) = false := by decide)
    (he : starEach (e :: es) X.env = (false, eval e X.env) :: starEach es X.env := by rfl) (hpl : (backTo pos (starEach es X.env)).any (·.1) = false := by rfl) :
    PE X (.Call (.Name x p) (e :: es) [] pos) (tCall sp [] E t) := by
  obtain ⟨f, fd, F, g, kp, b⟩ := c
  exact pe_call F hr hg g kp b .nil hx ha hdb he hpl
theorem pe_calS {E : L2.St → XK} (c : CalX X.prog X.w X.K X.mg X.base k x ps sp) (hr : Room k X.A) (hg : Gl X x) (hx : ∀ σ, PassesAt (L2.CX X.prog X.w) X σ (E σ)) (ha : PA X (e :: es) t) (hdb : (x == ("__debug__" : Str)) = false := by decide)
    (he : starEach (e :: es) X.env = (false, eval e X.env) :: starEach es X.env := by rfl) (hpl : (backTo pos (starEach es X.env)).any (·.1) = false := by rfl) :
    PE X (.Call (.Name x p) (e :: es) [] pos) (tCallS sp E t) := by
  obtain ⟨f, fd, F, g, kp, b⟩ := c
  exact pe_callS F hr hg g kp b hx ha hdb he hpl
end
section
variable {X : Cx} {k : Nat} {x : Str} {ps : List Str} {sp : Sp} {p pos : Pos}
theorem pe_cal0 (c : Cal X.prog X.w X.K X.mg X.base k x ps sp) (hr : Room k X.A) (hg : Gl X x) (hdb : (x == ("__debug__" : Str)) = false := by decide) : PE X (.Call (.Name x p) [] [] pos) (tCall sp [] E0 tNil) := by
  obtain ⟨f, fd, F, g, kp, b⟩ := c
  exact pe_call0 F hr hg g kp b .nil pass0 hdb
end
/-! ### lists as cells, each item with its value -/
def cTg {α : Type} (t : Ty α) (vxs : List (V × α)) : CF := ⟨fun F o => o = .lst (vxs.map (·.1)) ∧ ∀ p ∈ vxs, t.r F p.1 p.2, fun e ⟨h, g⟩ => ⟨h, fun p m => t.mono e (g p m)⟩⟩
section
variable {α β γ δ : Type} {W : Wd} {K : PySem.W.Frag} {ta tb tc td ty tx : TE} {t : Ty α} {u : Ty β} {x x' : α} {y : β} {tt uu : TT} {ar ak : TA} {fs : List SF} {i : Nat} {E : XK} {ts us vs : TS} {D : Ends} {g : TG} {as : α → List (Nat × SF)} {wi : TI} {xs : List α} {vxs : List (V × α)} {p : Addr}
theorem tg_says : SaysR (cell p (cTg t vxs)) p t vxs := fun F H ⟨o, h, e, g⟩ => ⟨by rw [h, e], g⟩
/-- xs = [], a list that grows -/
theorem go_newT (t : Ty α) (k : ∀ p, p ∉ W.S → Go ⟨W.H0, W.M, p :: W.S, cell p (cTg t []) :: W.L, W.F, W.G.set i (some (tRf.is p))⟩ us D) : Go W (tSeq (tAsg (tLst tNil) (gName i)) us) D := fun σ H o =>
  ⟨Nat.zero_le _, fun p np => k p (o.off np) _ _ (Ok.put (i := i) (f := tRf.is p) (o.cell (ψ := cTg t []) np ⟨rfl, fun p m => nomatch m⟩).1 rfl)⟩
/-- p.append(e) -/
theorem go_app1T {R : List RS} {nx : L2.St → Hp → Prop} (hL : W.L.Perm (cell p (cTg t vxs) :: R)) (ho : Ev W ta tRf p) (ha : Ev W tb t x) (hl : vxs.length < sizeLine) (hD : D.nx = nx) (k : ∀ v σ H, Ok { W with L := cell p (cTg t (vxs ++ [(v, x)])) :: R } σ H → nx σ H) :
    Go W (tDrop (tBM K "list" rAppend ta (tCons tb tNil))) D :=
  go_appR (r := cell p (cTg t vxs)) (r' := fun v => cell p (cTg t (vxs ++ [(v, x)]))) (q := p) hL ho tg_says ha hl (fun v => rfl) (List.mem_cons_self ..) (fun v F H _ ⟨o, h, e, g⟩ hv => ⟨_, upd_same, by rw [List.map_append]; rfl, fun q m => by
    rcases List.mem_append.mp m with m | m
    · exact g q m
    · rw [List.mem_singleton.mp m]; exact hv⟩) hD k
theorem go_appT {R : List RS} (hL : W.L.Perm (cell p (cTg t vxs) :: R)) (ho : Ev W ta tRf p) (ha : Ev W tb t x) (hl : vxs.length < sizeLine) (k : ∀ v, Go { W with L := cell p (cTg t (vxs ++ [(v, x)])) :: R } us D) :
    Go W (tSeq (tDrop (tBM K "list" rAppend ta (tCons tb tNil))) us) D := go_seq (go_app1T hL ho ha hl rfl fun v σ H o => k v σ H o)
/-- a for over a list of a thing -/
theorem go_forR {ι : Type} {r : RS} (h : IvR W wi r t xs) (tg : Tgt g t as) (J : Nat → ι → List Addr × List RS × List (Option SF)) (hJ : ∀ k c, r ∈ (J k c).2.1) (Pv : Nat → ι → Prop) (c0 : ι) (p0 : Pv 0 c0) (s0 : (J 0 c0).1 = W.S) (w0 : Wk W { W with L := (J 0 c0).2.1, G := (J 0 c0).2.2 })
    (hs : ∀ k c x, xs[k]? = some x → Pv k c → Go (Wd.puts ⟨W.H0, W.M, (J k c).1, (J k c).2.1, W.F, (J k c).2.2⟩ (as x)) ts
      { D with nx := fun σ H => ∃ c', Pv (k + 1) c' ∧ Ok ⟨W.H0, W.M, (J (k + 1) c').1, (J (k + 1) c').2.1, W.F, (J (k + 1) c').2.2⟩ σ H, ct := fun σ H => ∃ c', Pv (k + 1) c' ∧ Ok ⟨W.H0, W.M, (J (k + 1) c').1, (J (k + 1) c').2.1, W.F, (J (k + 1) c').2.2⟩ σ H, bk := D.nx })
    (hd : ∀ c, Pv xs.length c → ∀ σ H, Ok ⟨W.H0, W.M, (J xs.length c).1, (J xs.length c).2.1, W.F, (J xs.length c).2.2⟩ σ H → D.nx σ H) :
    Go W (tFor wi g ts) D := fun σ H o => h σ H o _ fun Ji H1 g1 wk =>
  for_coreR wk tg (fun k c => ⟨W.H0, W.M, (J k c).1, (J k c).2.1, W.F, (J k c).2.2⟩) Pv hJ ⟨c0, p0, by rw [s0]; exact w0 _ _ g1.ok⟩ hs hd
/-! ### promises of several kinds -/
theorem FnOk.or {P : Program} {w : World} {mg : Str → Option Value} {base : Heap} {CX : CXT} {k : Nat} {f : Addr} {fd : FuncData} {ps : List Str} {sp sp' : Sp} (F : FnOk P w K mg base CX k f fd ps sp) (G : FnOk P w K mg base CX k f fd ps sp') : FnOk P w K mg base CX k f fd ps (fun vs H Q E => sp vs H Q E ∨ sp' vs H Q E) :=
  ⟨fun vs H Q E h => h.elim (F.len vs H Q E) (G.len vs H Q E), fun A outer s H args us vs Q E hr he hb hv hs => hs.elim (F.run A outer s H args us vs Q E hr he hb hv) (G.run A outer s H args us vs Q E hr he hb hv)⟩
/-- what is promised without errors is promised among errors too -/
theorem FnOk.toX {P : Program} {w : World} {mg : Str → Option Value} {base : Heap} {k : Nat} {f : Addr} {fd : FuncData} {ps : List Str} {sp : Sp} (F : FnOk P w K mg base CX0 k f fd ps sp) : FnOk P w K mg base (L2.CX P w) k f fd ps sp :=
  ⟨F.len, fun A outer s H args us vs Q E hr he hb hv hs => codeAny_mono (F.run A outer s H args us vs Q E hr he hb hv hs) fun r s' h => by
    cases r with
    | error e => exact h.elim
    | ok fl => cases fl <;> exact h⟩
theorem evx_methXI {r : RS} {b Cl : Addr} {m : Str} {sp : Sp} {C : γ → List RS} {A : γ → List SF} {w : Ty β} {pre : γ → Prop} {post : γ → β → Prop} {z : γ} {gs : List SF} {EE : L2.St → XK} (imp : ∀ vs H Q E, spN C A w pre post vs H Q E → sp vs H Q E) (hi : IsOb r b Cl m) (hr : r ∈ W.L) (ho : Ev W ta tRf b) (h : Ea W ar gs) (hA : A z = tRf.is b :: gs) (hp : pre z)
    (hC : (C z).Sublist W.L := by first | exact List.nil_sublist _ | exact List.Sublist.refl _ | exact List.singleton_sublist.mpr (by simp) | simp) : Evx W (tMethX Cl m sp EE ta ar) w (post z) := fun σ H o Q q => ho σ H o _ fun v0 H0 g0 r0 => by
  obtain rfl : v0 = .ref b := r0
  obtain ⟨dx, fs, h1, h2⟩ := hi _ _ (g0.ok.at_ r hr)
  refine ⟨b, dx, fs, rfl, h1, h2, h σ H0 g0.ok _ fun vs H1 g1 r1 => imp _ _ _ _ ?_⟩
  have sub : ∀ a, a ∈ fps (C z) → a ∈ W.S := fun a m => by
    obtain ⟨r, m1, m2⟩ := of_fps m
    exact (g1.ok.own a (mem_fps (hC.subset m1) m2)).1
  refine ⟨W.S, z, g1.ok.al, (fps_sub hC).nodup g1.ok.nod, sub, fun r m => g1.ok.at_ r (hC.subset m), by rw [hA]; exact ⟨rfl, r1⟩, hp, fun v y H2 py bt al c rr => ?_⟩
  exact q v y H2 py ((g0.trans g1).trans (g1.ok.after (fun r m => hC.subset m) bt al c)) rr
theorem evm_methXI {r : RS} {b Cl : Addr} {m : Str} {sp : Sp} {C : γ → List RS} {A : γ → List SF} {w : Ty β} {pre : γ → Prop} {post : γ → β → List RS → Prop} {z : γ} {R : List RS} {gs : List SF} {EE : L2.St → XK} (imp : ∀ vs H Q E, spS C A w pre post vs H Q E → sp vs H Q E) (hi : IsOb r b Cl m) (hr : r ∈ W.L) (ho : Ev W ta tRf b) (h : Ea W ar gs) (hA : A z = tRf.is b :: gs) (hp : pre z) (hL : W.L.Perm (C z ++ R)) :
    Evm W (tMethX Cl m sp EE ta ar) w (fun y => Aft W R (post z y)) := fun σ H o Q q => ho σ H o _ fun v0 H0 g0 r0 => by
  obtain rfl : v0 = .ref b := r0
  obtain ⟨dx, fs, h1, h2⟩ := hi _ _ (g0.ok.at_ r hr)
  refine ⟨b, dx, fs, rfl, h1, h2, h σ H0 g0.ok _ fun vs H1 g1 r1 => imp _ _ _ _ ?_⟩
  have o1 := g1.ok.perm hL
  refine ⟨W.S, z, g1.ok.al, (nodup_app.mp o1.nod).1, fun a m => ?_, fun r m => o1.at_ r (List.mem_append_left _ m), by rw [hA]; exact ⟨rfl, r1⟩, hp, fun v y N C' H2 py b hN nd hC' al rs r => ?_⟩
  · obtain ⟨r, m1, m2⟩ := of_fps m
    exact (o1.own a (mem_fps (List.mem_append_left _ m1) m2)).1
  · exact q v y _ H2 ⟨N, C', py, rfl⟩ (aft_of g1.ok hL b hN nd hC' al rs) r
theorem evx_methEI {r : RS} {b Cl CE : Addr} {m : Str} {sp : Sp} {C : γ → List RS} {A : γ → List SF} {w : Ty β} {pre : γ → Prop} {flds : γ → List (Str × SF)} {z : γ} {gs : List SF} {EE : L2.St → XK} (imp : ∀ vs H Q E, spE C A pre CE flds vs H Q E → sp vs H Q E) (hi : IsOb r b Cl m) (hr : r ∈ W.L) (ho : Ev W ta tRf b) (h : Ea W ar gs) (hA : A z = tRf.is b :: gs) (hp : pre z) (fl : ∀ σ, Flies W σ CE (flds z) (EE σ))
    (hC : (C z).Sublist W.L := by first | exact List.nil_sublist _ | exact List.Sublist.refl _ | exact List.singleton_sublist.mpr (by simp) | simp) : Evx W (tMethX Cl m sp EE ta ar) w (fun _ => False) := fun σ H o Q q => ho σ H o _ fun v0 H0 g0 r0 => by
  obtain rfl : v0 = .ref b := r0
  obtain ⟨dx, fs, h1, h2⟩ := hi _ _ (g0.ok.at_ r hr)
  refine ⟨b, dx, fs, rfl, h1, h2, h σ H0 g0.ok _ fun vs H1 g1 r1 => imp _ _ _ _ ?_⟩
  have sub : ∀ a, a ∈ fps (C z) → a ∈ W.S := fun a m => by
    obtain ⟨r, m1, m2⟩ := of_fps m
    exact (g1.ok.own a (mem_fps (hC.subset m1) m2)).1
  refine ⟨W.S, z, g1.ok.al, (fps_sub hC).nodup g1.ok.nod, sub, fun r m => g1.ok.at_ r (hC.subset m), by rw [hA]; exact ⟨rfl, r1⟩, hp, fun d xs H2 bt al c hd hf => ?_⟩
  exact fl σ d xs H2 (g1.ok.after (fun r m => hC.subset m) bt al c).ok hd hf
/-- calls of defs, by the slots -/
theorem evx_callXI {sp : Sp} {C : γ → List RS} {A : γ → List SF} {w : Ty β} {pre : γ → Prop} {post : γ → β → Prop} {z : γ} {EE : L2.St → XK} (imp : ∀ vs H Q E, spN C A w pre post vs H Q E → sp vs H Q E) (h : Ea W ar (A z)) (hp : pre z)
    (hC : (C z).Sublist W.L := by first | exact List.nil_sublist _ | exact List.Sublist.refl _ | exact List.singleton_sublist.mpr (by simp) | simp) : Evx W (tCallS sp EE ar) w (post z) := fun σ H o Q q => h σ H o _ fun vs H1 g1 r1 => imp _ _ _ _ (by
  have sub : ∀ a, a ∈ fps (C z) → a ∈ W.S := fun a m => by
    obtain ⟨r, m1, m2⟩ := of_fps m
    exact (g1.ok.own a (mem_fps (hC.subset m1) m2)).1
  refine ⟨W.S, z, g1.ok.al, (fps_sub hC).nodup g1.ok.nod, sub, fun r m => g1.ok.at_ r (hC.subset m), r1, hp, fun v y H2 py bt al c rr => ?_⟩
  exact q v y H2 py (g1.trans (g1.ok.after (fun r m => hC.subset m) bt al c)) rr)
theorem evx_callEI {sp : Sp} {CE : Addr} {C : γ → List RS} {A : γ → List SF} {w : Ty β} {pre : γ → Prop} {flds : γ → List (Str × SF)} {z : γ} {EE : L2.St → XK} (imp : ∀ vs H Q E, spE C A pre CE flds vs H Q E → sp vs H Q E) (h : Ea W ar (A z)) (hp : pre z) (fl : ∀ σ, Flies W σ CE (flds z) (EE σ))
    (hC : (C z).Sublist W.L := by first | exact List.nil_sublist _ | exact List.Sublist.refl _ | exact List.singleton_sublist.mpr (by simp) | simp) : Evx W (tCallS sp EE ar) w (fun _ => False) := fun σ H o Q q => h σ H o _ fun vs H1 g1 r1 => imp _ _ _ _ (by
  have sub : ∀ a, a ∈ fps (C z) → a ∈ W.S := fun a m => by
    obtain ⟨r, m1, m2⟩ := of_fps m
    exact (g1.ok.own a (mem_fps (hC.subset m1) m2)).1
  refine ⟨W.S, z, g1.ok.al, (fps_sub hC).nodup g1.ok.nod, sub, fun r m => g1.ok.at_ r (hC.subset m), r1, hp, fun d xs H2 bt al c hd hf => ?_⟩
  exact fl σ d xs H2 (g1.ok.after (fun r m => hC.subset m) bt al c).ok hd hf)
/-- a call that raises inside a def that raises -/
theorem evx_callE0 {CE : Addr} {C : γ → List RS} {A : γ → List SF} {w : Ty β} {pre : γ → Prop} {flds : γ → List (Str × SF)} {z : γ} (h : Ea W ar (A z)) (hp : pre z) (fl : ∀ σ, Flies W σ CE (flds z) E)
    (hC : (C z).Sublist W.L := by first | exact List.nil_sublist _ | exact List.Sublist.refl _ | exact List.singleton_sublist.mpr (by simp) | simp) : Evx W (tCall (spE C A pre CE flds) [] E ar) w (fun _ => False) := fun σ H o Q q => h σ H o _ fun vs H1 g1 r1 => by
  have sub : ∀ a, a ∈ fps (C z) → a ∈ W.S := fun a m => by
    obtain ⟨r, m1, m2⟩ := of_fps m
    exact (g1.ok.own a (mem_fps (hC.subset m1) m2)).1
  refine ⟨W.S, z, g1.ok.al, (fps_sub hC).nodup g1.ok.nod, sub, fun r m => g1.ok.at_ r (hC.subset m), by rw [List.append_nil]; exact r1, hp, fun d xs H2 bt al c hd hf => ?_⟩
  exact fl σ d xs H2 (g1.ok.after (fun r m => hC.subset m) bt al c).ok hd hf
end
end Cs
set_option maxHeartbeats 4000000
namespace Cs
open PySem PySem.Spec PyProof.Rows L2
/-! ### a law that asks for the written form of data: it runs where no guard is up -/
/-- what the call of the law from outside is asked for -/
def RunAt (P : Program) (w : World) (K : PySem.W.Frag) (mg : Str → Option Value) (base : Heap) (fa : Addr) (fd : FuncData) (ps : List Str) (sp : Sp) : Prop :=
  ∀ (s : Shared) (H : Hp) (us : List Value) (vs : List V) (Q : VK) (E : XK), Env0 P w K mg base callerA [] s H → BindsTo s fd ⟨us, []⟩ (ps.zip us) → Vals vs us → sp vs H Q E → codeAny (model P w) callerA (.call (.ref fa) ⟨us, []⟩) (CR CX0 [] P w H s Q E) s
theorem run_at {P : Program} {w : World} {K : PySem.W.Frag} {mg : Str → Option Value} {base : Heap} {nm qual : Str} {st : Stmt} {f : Addr} {fd : FuncData} {N ps : List Str} {k : Nat} {sp : Sp} (hr : Room (k + 1) callerA) (F : Fun K nm qual st f fd) (S : FnScope N ps (defScope st)) (len : ∀ vs H Q E, sp vs H Q E → vs.length = ps.length)
    (body : ∀ (cdv : Value) (s : Shared) (H : Hp) (vs : List V) (Q : VK) (E : XK), Room k (callerA.deeper (envOfC qual (defScope st) s.heap.objs.size f cdv)) → sp vs H Q E →
      ∃ t, PSs (cxOf CX0 P w K mg base N qual (defScope st) f cdv callerA [] s H E).nox (defBody st) t ∧ t { nx := fun _ H' => Q .non H', rt := Q } (L2.start N vs) H) : RunAt P w K mg base f fd ps sp := by
  obtain ⟨oc, od, kV, doc, pm, an, cdv, ct, osl, rfl, lk, hcd⟩ := F.ex
  intro s H us vs Q E env bind rel want
  have n0 := len vs H Q E want
  have here : ∀ b o, base.get? b = some o → s.heap.get? b = some o := fun b o z => (env.bs b o z).1
  have kin : K.In s.heap := env.mod.kin.keeps here
  have places : ∀ y ∈ ps.zip us, (defScope st).names.lookup y.1 = some .local ∨ ((defScope st).names.lookup y.1 = some .cell ∧ ((cellsFrom (s.heap.objs.size + 1) (defScope st).names []).lookup y.1).isSome = true) := by
    rintro ⟨n, v⟩ m
    exact (S.par n (List.of_mem_zip m).1).imp id fun z => ⟨z, PySem.W.cellsFrom_some _ _ _ (.inl z)⟩
  refine codeAny_call_function hr.depth (kin _ _ lk) rfl S.co S.gen rfl (PySem.W.codeRec_of kin hcd) (bind _ _ _ _ ?_)
  refine wpAny_newFunctionEnv_cells S.kind places fun e1 he s1 made => ?_
  subst he
  refine ⟨(env.mod.nolimit.keeps here).keeps made.toInCall.keep, codeAny_func ?_⟩
  obtain ⟨t, ht, go⟩ := body cdv s H vs Q E (hr.deeper _) want
  have I : Inv (cxOf CX0 P w K mg base N qual (defScope st) f cdv callerA [] s H E) [] (L2.start N vs) H s1 := inv_start S hr.hd env n0 rel made
  refine wpAny_mono (ht.nox.run [] s1 (L2.start N vs) H _ I go) (fun fl s' hs => ?_) fun _ _ q => q
  have done : ∀ {σ' : L2.St} {H' : Hp} {v : V} {u : Value}, Inv (cxOf CX0 P w K mg base N qual (defScope st) f cdv callerA [] s H E) [] σ' H' s' → RelV v u → Q v H' → CE [] P w H s Q u s' := fun {_ H' v _} J rv q => ⟨v, H', J.os, J.bare, J.base, J.hok, rv, q⟩
  match fl, hs with
  | .ret u, ⟨v, σ', H', J, rv, q⟩ => exact done J rv q
  | .next, ⟨σ', H', J, q⟩ => exact done (v := V.non) (u := Value.none) J rfl q
  | .brk, ⟨_, _, _, q⟩ => exact q.elim
  | .cont, ⟨_, _, _, q⟩ => exact q.elim
/-- the call, from a heap in which at most the script is told -/
theorem call_from {P : Program} {w : World} {K : PySem.W.Frag} {mg mb : Str → Option Value} {fa a : Addr} {fd : FuncData} {x : Str} {sp : Sp} {s : Shared} {vs : List Value} {H : Hp}
    (kin : K.In s.heap) (g : s.heap.Ns mainGlobals mg) (b : s.heap.Ns builtinsNs mb) (bb : ∀ x : Str, x ≠ "__name__" → mb x = bootBuiltins x) (lim : s.heap.NoLimit) (gs : s.gens = #[]) (ha : s.heap.get? a = some { cls := .type "list", data := .seq vs.toArray })
    (F : ∀ base : Heap, K.In base → base.Ns mainGlobals mg → RunAt P w K mg base fa fd [x] sp) (bind : ∀ (s : Shared) (u : Value), BindsTo s fd ⟨[u], []⟩ [(x, u)]) (want : sp [.ref a] H (fun v _ => v = .bl true) fun _ _ _ => False)
    (hO : Only H) (hok : HOk P w H s.heap) (hA : ∀ c, H c ≠ none → c = a) (hK : H a ≠ none → K.lookup a = none) :
    codeAny (model P w) callerA (.call (.ref fa) ⟨[.ref a], []⟩) (fun r s' => r = .ok (.ret (.bool true)) ∧ OldK s.heap s'.heap ∧ s'.os = s.os ∧ AllBare s'.gens) s := by
  have none_or : ∀ c, H c = none ∨ c = a := fun c => by
    cases q : H c with
    | none => exact .inl rfl
    | some u => exact .inr (hA c (by rw [q]; simp))
  have ns' : ∀ {c : Addr} {m : Str → Option Value}, s.heap.Ns c m → (hidT s.heap H).Ns c m := fun {c m} ⟨o, es, ep, e, d, r⟩ => ⟨o, es, ep, hidT_get e ((none_or c).elim id fun z => by
    rw [z, ha] at e
    cases e
    exact absurd (show Data.seq vs.toArray _ = Data.dict es ep from d) (fun y => by cases y)), d, r⟩
  have kin' : K.In (hidT s.heap H) := fun c o e => hidT_get (kin c o e) ((none_or c).elim id fun z => by
    cases q : H c with
    | none => rfl
    | some u => rw [z, hK (by rw [← z, q]; simp)] at e; cases e)
  have md : Mod K mg (hidT s.heap H) := ⟨kin', ns' g, ⟨mb, ns' b, bb⟩, let ⟨mc, h1, h2⟩ := lim; ⟨mc, ns' h1, h2⟩⟩
  have env : Env0 P w K mg (hidT s.heap H) callerA [] s H := ⟨rfl, md, fun c o e => of_hidT e, Nat.le_of_eq (hidT_size _ _), trivial, (fun c hc => absurd (show c ∈ ([] : List Addr) from hc) List.not_mem_nil), hok, .of_eq gs⟩
  refine codeAny_mono (F _ kin' (ns' g) s H [.ref a] [.ref a] _ _ env (bind s (.ref a)) (.cons rfl .nil) want) fun r s' h => ?_
  match r, h with
  | .error _, h => exact h.elim
  | .ok .next, h => exact h.elim
  | .ok .brk, h => exact h.elim
  | .ok .cont, h => exact h.elim
  | .ok (.ret u), ⟨v, H', os, bare, un, hok', r', q⟩ =>
    obtain rfl : v = .bl true := q
    obtain rfl : u = Value.bool true := r'
    refine ⟨rfl, OldK.of_keep fun c o e => ?_, os, bare⟩
    cases q : H c with
    | none => exact un.keep c o e q (fun z => absurd (show c ∈ ([] : List Addr) from z) List.not_mem_nil) (by simp)
    | some u =>
      rcases hO c with z | ⟨ob, xs, z⟩
      · rw [q] at z; cases z
      · have e1 := (hok c _ z).1
        rw [e] at e1; cases e1
        exact (hok' c _ (un.frzs c _ _ z)).1
theorem law_callA {P : Program} {w : World} {K : PySem.W.Frag} {mg mb : Str → Option Value} {fa a : Addr} {fd : FuncData} {x : Str} {sp : Sp} {s : Shared} {vs : List Value} {ns : List Int}
    (kin : K.In s.heap) (g : s.heap.Ns mainGlobals mg) (b : s.heap.Ns builtinsNs mb) (bb : ∀ x : Str, x ≠ "__name__" → mb x = bootBuiltins x) (lim : s.heap.NoLimit) (gs : s.gens = #[]) (ha : s.heap.get? a = some { cls := .type "list", data := .seq vs.toArray }) (hi : IntsAre vs ns) (hl : ns.length ≤ sizeLine)
    (F : ∀ base : Heap, K.In base → base.Ns mainGlobals mg → RunAt P w K mg base fa fd [x] sp) (bind : ∀ (s : Shared) (u : Value), BindsTo s fd ⟨[u], []⟩ [(x, u)])
    (want : ∀ H : Hp, SqL K H a (ns.map V.int) → sp [.ref a] H (fun v _ => v = .bl true) fun _ _ _ => False) :
    codeAny (model P w) callerA (.call (.ref fa) ⟨[.ref a], []⟩) (fun r s' => r = .ok (.ret (.bool true)) ∧ OldK s.heap s'.heap ∧ s'.os = s.os ∧ AllBare s'.gens) s := by
  have rv := vals_ints hi
  cases hk : K.lookup a with
  | some o =>
    have e := kin a o hk
    rw [ha] at e
    cases e
    exact call_from (H := fun _ => none) kin g b bb lim gs ha F bind (want _ (.inr ⟨_, vs.toArray, _, hk, rfl, rfl, rfl, by rw [List.size_toArray, hi.length]; exact hl, by simpa using rv⟩)) (fun _ => .inl rfl) (fun c u z => by cases (show (none : Option HO) = some u from z)) (fun c z => absurd rfl z) fun z => absurd rfl z
  | none =>
    have off : ∀ c, c ≠ a → (if c = a then some (HO.frz { cls := .type "list", data := .seq vs.toArray } (.lst (ns.map V.int))) else none) = none := fun c n => if_neg n
    refine call_from (H := fun c => if c = a then some (.frz { cls := .type "list", data := .seq vs.toArray } (.lst (ns.map V.int))) else none) kin g b bb lim gs ha F bind (want _ (.inl (.inr ⟨{ cls := .type "list", data := .seq vs.toArray }, if_pos rfl⟩))) (fun c => ?_) (fun c u z => ?_) (fun c z => ?_) fun _ => hk
    · by_cases q : c = a
      · exact .inr ⟨_, _, if_pos q⟩
      · exact .inl (off c q)
    · by_cases q : c = a
      · cases (if_pos q).symm.trans z
        subst q
        exact ⟨ha, by rw [List.length_map]; exact hl, vs, _, rv, ha⟩
      · cases (off c q).symm.trans z
    · exact Decidable.byContradiction fun q => z (off c q)
theorem walk_ofA {l : PySem.W.OpenLaw} {n : Nat} {q : Program} {loose : List Str} {XP : (Str → Option Value) → Heap → Prop} {YP : World → Heap → Prop} {d : DefRec} {K : Params → PySem.W.Frag} {sp : World → Sp} {x : Str}
    (hn : l.most = some n) (hn2 : n ≤ sizeLine) (hdf : d.params.defaults = []) (hY : ∀ (w : World) (h : Heap), YP w h → (K w.params).In h)
    (F : ∀ (w : World) (mg : Str → Option Value) (fa : Addr) (h : Heap), (K w.params).In h → h.Ns mainGlobals mg → mg d.name = some (.ref fa) →
      ∃ fd : FuncData, (∀ (s : Shared) (u : Value), BindsTo s fd ⟨[u], []⟩ [(x, u)]) ∧ ∀ base : Heap, (K w.params).In base → base.Ns mainGlobals mg → RunAt l.prog w (K w.params) mg base fa fd [x] (sp w))
    (hsp : ∀ (w : World) (H : Hp) (a : Addr) (ns : List Int), ns.length ≤ n → SqL (K w.params) H a (ns.map V.int) → sp w [.ref a] H (fun v _ => v = .bl true) fun _ _ _ => False) :
    PySem.W.WalkO q loose XP YP l.row.toRowW d [] (fun f vs => PySem.call f vs) := by
  refine Att.attach_call hn hdf fun w s0 s mg mb fa o pm cd doc a vs ns G Y _ _ _ hmg hobj hints hlen hg => ?_
  obtain ⟨fd, hb, hF⟩ := F w mg fa _ (hY w _ Y) G.T.g hmg
  exact law_callA (hY w _ Y) G.T.g G.T.b G.T.builtins G.T.nolimit hg hobj hints (Nat.le_trans hlen hn2) hF hb fun H hS => hsp w H a ns hlen hS
/-! ### repr of data -/
theorem call_repr_dp {X : Cx} {K : PySem.W.Frag} (hK : X.K = K) (hg : X.A.guards = some []) (hu : X.A.units + 64 < cLine) : CallR X (.builtin "repr") (fun xs H Q => ∃ (v : V) (d : PyData), xs = [v] ∧ Dp K H v d ∧ (∃ a, v = .ref a) ∧ d.showable = true ∧ d.hasDict = false ∧ d.depth ≤ 60 ∧ d.shown.length ≤ sizeLine ∧ Q (.str d.shown) H) := by
  subst hK
  intro pins s σ H xs us Q I r h
  obtain ⟨v, d, rfl, hd, ⟨a, rfl⟩, hs, hn, dp, sz, q⟩ := h
  cases r with
  | cons r1 r2 =>
    cases r2
    obtain ⟨as, rd⟩ := Dp.reads I d _ _ hd r1
    obtain rfl : _ = Value.ref a := r1
    refine repr_of_reads' rd hs (fun z => by rw [hn] at z; cases z) hg (by omega) (fun _ _ e => e) (fun h' u tk keep => ?_) sz
    exact ⟨.str _, H, I.kept keep, ⟨_, rfl⟩, q⟩
end Cs
set_option maxHeartbeats 4000000
namespace Cs
open PySem PySem.Spec PyProof.Rows L2
/-! ### an own error, raised without arguments -/
section
variable {X : Cx} {C : Addr} {bmB : List Value} {B newId initId : String}
theorem pmk_own0 {x : Str} {p pos : Pos} (F : ExcBaseFacts B newId initId bmB) (q : PySem.W.excIn X.K C bmB newId = true) (gC : X.mg x = some (.ref C)) (kC : PySem.W.keepIn X.K (.ref C) = true) (r : Raises X (.ref C)) (hg : Gl X x)
    (hdb : (x == ("__debug__" : Str)) = false := by decide) : PMk X (.Call (.Name x p) [] [] pos) (fun _ H Q => Q (.ref C) none H) := by
  intro pins s σ H Q I h
  refine wpAny_Call_Name_kw (ld_glob I hg gC ?_ hdb)
  refine PySem.W.callWith_K0 I.kIn kC ?_
  show wpAny _ _ (call (.ref C) []) _ _ _
  obtain ⟨bm, N, nm, qn, bs, hdct, sn, sub, ab, col, dd, k0, k1, k2, k3, k5, mN, hC, hN, hni, T⟩ := exc_obj I.kIn q
  refine wpAny_call_exc_subT F T hC hN hni (fun h' e hm => ?_) (by show 0 ≤ sizeLine; exact Nat.zero_le _)
  exact mk_of I hm r h (I.hok.gone hm.new)
end
/-- what the written part says of an own error class without __init__ over ValueError (perhaps by another own class) -/
structure ErrC (K : PySem.W.Frag) (mg : Str → Option Value) (x : Str) (C : Addr) : Prop where
  g : mg x = some (.ref C)
  ex : PySem.W.excIn K C [.type "ValueError", .type "Exception", .type "BaseException", .type "object"] "ValueError.__new__" = true
  kp : PySem.W.keepIn K (.ref C) = true
  sb : PySem.W.subIn K (.ref C) (.type "BaseException") = some true
  ty : PySem.W.typeIn K (.ref C) = some (.type "type")

/-! ### errors without arguments, in the typed layer -/
def Flies0 (W : Wd) (σ : L2.St) (CE : Addr) (w : XK) : Prop := ∀ H', Ok W σ H' → w (.ref CE) none H'
section
variable {α β γ δ : Type} {W : Wd} {K : PySem.W.Frag} {ta tb tc td : TE} {t : Ty α} {u : Ty β} {x x' : α} {y : β} {tt uu : TT} {ar ak : TA} {fs : List SF} {i : Nat} {E : XK} {ts us vs : TS} {D : Ends}
def spE0 (C : α → List RS) (A : α → List SF) (pre : α → Prop) (CE : Addr) : Sp := fun vs H _ E => ∃ (S : List Addr) (x : α), (∀ a ∈ S, H a ≠ none) ∧ (fps (C x)).Nodup ∧ (∀ a, a ∈ fps (C x) → a ∈ S) ∧ RsAt (C x) S H ∧ Fits (hid S H) (A x) vs ∧ pre x ∧
  ∀ H', Bt (fps (C x)) H H' → (∀ a, a ∈ fps (C x) → H' a ≠ none) → RsAt (C x) S H' → E (.ref CE) none H'
/-- raise C() -/
theorem go_raise0 {C : Addr} {WW : WX} (fl : ∀ σ, Flies0 W σ C (fun c d H => WW c d σ H)) : Go W (fun _ σ H => (fun (_ : L2.St) (H : Hp) (Q : XK) => Q (.ref C) none H) σ H fun cls d H' => WW cls d σ H') D := fun σ H o => fl σ H o
theorem ok_E0 {P : Program} {w : World} {mg : Str → Option Value} {base : Heap} {nm qual : Str} {st : Stmt} {f : Addr} {fd : FuncData} {N ps : List Str} {k : Nat} {C : α → List RS} {A : α → List SF} {pre : α → Prop} {CE : Addr}
    (F : Fun K nm qual st f fd) (S : FnScope N ps (defScope st)) (hl : ∀ x, (A x).length = ps.length)
    (body : ∀ (cdv : Value) (A' : Around) (outer : List Env) (s : Shared) (H0 : Hp) (S : List Addr) (x : α) (Q : VK) (E : XK), Room k (A'.deeper (envOfC qual (defScope st) s.heap.objs.size f cdv)) → pre x → (∀ σ F G, Flies0 ⟨H0, fps (C x), S, C x, F, G⟩ σ CE E) →
      ∃ t, PSs (cxOf (L2.CX P w) P w K mg base N qual (defScope st) f cdv A' outer s H0 E) (defBody st) t ∧ Go ⟨H0, fps (C x), S, C x, [], (A x).map some ++ List.replicate (N.length - ps.length) none⟩ t { nx := fun _ H' => Q .non H', rt := Q }) :
    FnOk P w K mg base (L2.CX P w) (k + 1) f fd ps (spE0 C A pre CE) := by
  refine F.okX S (fun vs H Q E h => ?_) (fun cdv A' outer s H vs Q E hr h => ?_)
  · obtain ⟨S', x, _, _, _, _, ft, _⟩ := h
    rw [ft.length, hl]
  · obtain ⟨S', x, al, nd, sub, cc, ft, hp, out⟩ := h
    obtain ⟨t, h1, h2⟩ := body cdv A' outer s H S' x Q E hr hp fun σ F' G H' o => out H' o.bt (fun a m => o.al a (sub a m)) o.at_
    refine ⟨t, h1, h2 _ _ ⟨nd, fun a m => ⟨sub a m, .inl m⟩, cc, sub, al, Bt.refl, ?_, (fun f m => nomatch m), fun i f' q => ?_⟩⟩
    · have e1 := ft.length
      have e2 := hl x
      show (L2.start N vs).length = _
      unfold L2.start
      simp only [List.length_append, List.length_map, List.length_replicate]
      omega
    · exact start_slots (by rw [ft.length, hl]) ft q
theorem evx_methE0I {r : RS} {b Cl CE : Addr} {m : Str} {sp : Sp} {C : γ → List RS} {A : γ → List SF} {w : Ty β} {pre : γ → Prop} {z : γ} {gs : List SF} {EE : L2.St → XK} (imp : ∀ vs H Q E, spE0 C A pre CE vs H Q E → sp vs H Q E) (hi : IsOb r b Cl m) (hr : r ∈ W.L) (ho : Ev W ta tRf b) (h : Ea W ar gs) (hA : A z = tRf.is b :: gs) (hp : pre z) (fl : ∀ σ, Flies0 W σ CE (EE σ))
    (hC : (C z).Sublist W.L := by first | exact List.nil_sublist _ | exact List.Sublist.refl _ | exact List.singleton_sublist.mpr (by simp) | simp) : Evx W (tMethX Cl m sp EE ta ar) w (fun _ => False) := fun σ H o Q q => ho σ H o _ fun v0 H0 g0 r0 => by
  obtain rfl : v0 = .ref b := r0
  obtain ⟨dx, fs, h1, h2⟩ := hi _ _ (g0.ok.at_ r hr)
  refine ⟨b, dx, fs, rfl, h1, h2, h σ H0 g0.ok _ fun vs H1 g1 r1 => imp _ _ _ _ ?_⟩
  have sub : ∀ a, a ∈ fps (C z) → a ∈ W.S := fun a m => by
    obtain ⟨r, m1, m2⟩ := of_fps m
    exact (g1.ok.own a (mem_fps (hC.subset m1) m2)).1
  refine ⟨W.S, z, g1.ok.al, (fps_sub hC).nodup g1.ok.nod, sub, fun r m => g1.ok.at_ r (hC.subset m), by rw [hA]; exact ⟨rfl, r1⟩, hp, fun H2 bt al c => ?_⟩
  exact fl σ H2 (g1.ok.after (fun r m => hC.subset m) bt al c).ok
/-- in a def that raises: a method of several promises -/
theorem evx_methU {r : RS} {b Cl : Addr} {m : Str} {sp : Sp} {C : γ → List RS} {A : γ → List SF} {w : Ty β} {pre : γ → Prop} {post : γ → β → Prop} {z : γ} {gs : List SF} (imp : ∀ vs H Q E, spN C A w pre post vs H Q E → sp vs H Q E) (hi : IsOb r b Cl m) (hr : r ∈ W.L) (ho : Ev W ta tRf b) (h : Ea W ar gs) (hA : A z = tRf.is b :: gs) (hp : pre z)
    (hC : (C z).Sublist W.L := by first | exact List.nil_sublist _ | exact List.Sublist.refl _ | exact List.singleton_sublist.mpr (by simp) | simp) : Evx W (tMeth Cl m sp [] E ta ar) w (post z) := fun σ H o Q q => ho σ H o _ fun v0 H0 g0 r0 => by
  obtain rfl : v0 = .ref b := r0
  obtain ⟨dx, fs, h1, h2⟩ := hi _ _ (g0.ok.at_ r hr)
  refine ⟨b, dx, fs, rfl, h1, h2, h σ H0 g0.ok _ fun vs H1 g1 r1 => imp _ _ _ _ ?_⟩
  have sub : ∀ a, a ∈ fps (C z) → a ∈ W.S := fun a m => by
    obtain ⟨r, m1, m2⟩ := of_fps m
    exact (g1.ok.own a (mem_fps (hC.subset m1) m2)).1
  refine ⟨W.S, z, g1.ok.al, (fps_sub hC).nodup g1.ok.nod, sub, fun r m => g1.ok.at_ r (hC.subset m), by rw [List.append_nil, hA]; exact ⟨rfl, r1⟩, hp, fun v y H2 py bt al c rr => ?_⟩
  exact q v y H2 py ((g0.trans g1).trans (g1.ok.after (fun r m => hC.subset m) bt al c)) rr
theorem evx_methUE {r : RS} {b Cl CE : Addr} {m : Str} {sp : Sp} {C : γ → List RS} {A : γ → List SF} {w : Ty β} {pre : γ → Prop} {flds : γ → List (Str × SF)} {z : γ} {gs : List SF} (imp : ∀ vs H Q E, spE C A pre CE flds vs H Q E → sp vs H Q E) (hi : IsOb r b Cl m) (hr : r ∈ W.L) (ho : Ev W ta tRf b) (h : Ea W ar gs) (hA : A z = tRf.is b :: gs) (hp : pre z) (fl : ∀ σ, Flies W σ CE (flds z) E)
    (hC : (C z).Sublist W.L := by first | exact List.nil_sublist _ | exact List.Sublist.refl _ | exact List.singleton_sublist.mpr (by simp) | simp) : Evx W (tMeth Cl m sp [] E ta ar) w (fun _ => False) := fun σ H o Q q => ho σ H o _ fun v0 H0 g0 r0 => by
  obtain rfl : v0 = .ref b := r0
  obtain ⟨dx, fs, h1, h2⟩ := hi _ _ (g0.ok.at_ r hr)
  refine ⟨b, dx, fs, rfl, h1, h2, h σ H0 g0.ok _ fun vs H1 g1 r1 => imp _ _ _ _ ?_⟩
  have sub : ∀ a, a ∈ fps (C z) → a ∈ W.S := fun a m => by
    obtain ⟨r, m1, m2⟩ := of_fps m
    exact (g1.ok.own a (mem_fps (hC.subset m1) m2)).1
  refine ⟨W.S, z, g1.ok.al, (fps_sub hC).nodup g1.ok.nod, sub, fun r m => g1.ok.at_ r (hC.subset m), by rw [List.append_nil, hA]; exact ⟨rfl, r1⟩, hp, fun d xs H2 bt al c hd hf => ?_⟩
  exact fl σ d xs H2 (g1.ok.after (fun r m => hC.subset m) bt al c).ok hd hf
/-- as Flies, where the callee's own cells have come and gone: what was there before the def made things of its own -/
theorem Flies.less {H0 : Hp} {M S : List Addr} {r : RS} {L : List RS} {F : List FF} {G : List (Option SF)} {σ : L2.St} {CE : Addr} {fl : List (Str × SF)} {w : XK} {N : List Addr} (h : Flies ⟨H0, M, S, L, F, G⟩ σ CE fl w) (hS : ∀ a, a ∈ fps L → a ∈ S) (hM : ∀ a ∈ M, a ∈ S) : Flies ⟨H0, M, N ++ S, r :: L, F, G⟩ σ CE fl w :=
  fun d xs H' o hd hf => h d xs H' (Ok.drop o hS hM) hd fun n f m => by
    obtain ⟨u, h1, h2⟩ := hf n f m
    exact ⟨u, h1, f.mono (hid_less fun a z => List.mem_append_right _ z) h2⟩
end
end Cs
set_option maxHeartbeats 4000000
namespace Cs
open PySem PySem.Spec PyProof.Rows L2
section
variable {α β γ δ : Type} {W : Wd} {K : PySem.W.Frag} {ta tb tc td : TE} {t : Ty α} {u : Ty β} {x x' : α} {y : β} {tt uu : TT} {ar ak : TA} {fs : List SF} {i : Nat} {E : XK} {ts us vs : TS} {D : Ends} {r : RS} {q p : Addr} {vxs : List (V × α)} {xs ys : List α} {z : Str}
/-- a name among the names of a thing's list -/
theorem ev_inSR {ws : List (V × Str)} (hr : r ∈ W.L) (hs : SaysR r q tSt ws) (ha : Ev W ta tSt z) (hb : Ev W tb tRf q) : Ev W (tOp (rIn K false) ta tb) tBl (decide (z ∈ ws.map (·.2))) := fun σ H o Q k =>
  ha σ H o _ fun v H1 g1 r1 => hb σ H1 g1.ok _ fun v2 H2 g2 r2 => by
    obtain rfl : v2 = .ref q := r2
    obtain ⟨h1, h2⟩ := hs _ _ (g2.ok.at_ r hr)
    have al : All2 (tSt.r (hid W.S H2)) (ws.map (·.1)) (ws.map (·.2)) := all2_tags h2
    exact ⟨q, _, rfl, .inl (SqL.of h1), by rw [show v = .str z from r1]; rfl, flat_str al, k _ H2 (g1.trans g2) (by rw [show v = .str z from r1]; show V.bl (inV (.str z) _) = _; rw [inV_str al])⟩
theorem ev_niSR {ws : List (V × Str)} (hr : r ∈ W.L) (hs : SaysR r q tSt ws) (ha : Ev W ta tSt z) (hb : Ev W tb tRf q) : Ev W (tOp (rIn K true) ta tb) tBl (!decide (z ∈ ws.map (·.2))) := fun σ H o Q k =>
  ha σ H o _ fun v H1 g1 r1 => hb σ H1 g1.ok _ fun v2 H2 g2 r2 => by
    obtain rfl : v2 = .ref q := r2
    obtain ⟨h1, h2⟩ := hs _ _ (g2.ok.at_ r hr)
    have al : All2 (tSt.r (hid W.S H2)) (ws.map (·.1)) (ws.map (·.2)) := all2_tags h2
    exact ⟨q, _, rfl, .inl (SqL.of h1), by rw [show v = .str z from r1]; rfl, flat_str al, k _ H2 (g1.trans g2) (by rw [show v = .str z from r1]; show V.bl (!inV (.str z) _) = _; rw [inV_str al])⟩
/-! ### equality of pairs; of a list with a thing's list -/
def eqPr (a : Eqt K t) (b : Eqt K u) : Eqt K (tPr K t u) := ⟨fun x => .tuple [a.d x.1, b.d x.2], max a.n b.n + 1, fun ⟨p, v, w, e, s, h1, h2⟩ => by rw [e]; exact .tup s (.cons (a.dp h1) (.cons (b.dp h2) .nil)), fun x => by
  have h1 := a.dep x.1
  have h2 := b.dep x.2
  simp only [PyData.depth, PyData.depthAll]
  omega, fun x y => by
  simp only [PyData.eqv, PyData.eqvAll, Bool.and_true, Bool.and_eq_true, a.inj, b.inj]
  exact ⟨fun ⟨h1, h2⟩ => Prod.ext h1 h2, fun h => by rw [h]; exact ⟨rfl, rfl⟩⟩⟩
theorem lay_pr {a : Eqt K t} {b : Eqt K u} {x : α × β} (h1 : (a.d x.1).canLay0 = true) (h2 : (b.d x.2).canLay0 = true) : ((eqPr a b).d x).canLay0 = true := by
  show (PyData.tuple [a.d x.1, b.d x.2]).canLay0 = true
  simp only [PyData.canLay0, PyData.canLayAll0, h1, h2, Bool.and_true]
theorem cell_dp {H : Hp} {S : List Addr} (e : Eqt K t) (h : (cell p (cTg t vxs)).p (hid S H) H) : Dp K H (.ref p) ((eqLs e).d (vxs.map (·.2))) := by
  obtain ⟨o, h1, rfl, h2⟩ := h
  exact .lst (SqL.of h1) (dpAll_of e (all2_tags fun q m => t.mono hid_sub (h2 q m)))
theorem ev_neDc [DecidableEq α] (e : Eqt K t) (ha : Ev W ta (tLs K t) xs) (hb : Ev W tb tRf p) (hL : cell p (cTg t vxs) ∈ W.L) (l1 : ((eqLs e).d xs).canLay0 = true) (l2 : ((eqLs e).d (vxs.map (·.2))).canLay0 = true) (hn : (eqLs e).n ≤ 64) : Ev W (tOp (rNeD K) ta tb) tBl (!decide (xs = vxs.map (·.2))) := fun σ H o Q k =>
  ha σ H o _ fun v H1 g1 r1 => hb σ H1 g1.ok _ fun v2 H2 g2 r2 => by
    obtain rfl : v2 = .ref p := r2
    exact ⟨_, _, dp_mono hid_sub ((eqLs e).dp ((tLs K t).mono g2.up r1)), cell_dp e (g2.ok.at_ _ hL), (eqLs e).shape hn l1, (eqLs e).shape hn l2, by rw [(eqLs e).dec]; exact k _ H2 (g1.trans g2) rfl⟩
theorem ev_neDc1 [DecidableEq α] (e : Eqt K t) (ha : Ev W ta tRf p) (hL : cell p (cTg t vxs) ∈ W.L) (hb : Ev W tb (tLs K t) xs) (l1 : ((eqLs e).d xs).canLay0 = true) (l2 : ((eqLs e).d (vxs.map (·.2))).canLay0 = true) (hn : (eqLs e).n ≤ 64) : Ev W (tOp (rNeD K) ta tb) tBl (!decide (vxs.map (·.2) = xs)) := fun σ H o Q k =>
  ha σ H o _ fun v H1 g1 r1 => hb σ H1 g1.ok _ fun v2 H2 g2 r2 => by
    obtain rfl : v = .ref p := r1
    exact ⟨_, _, cell_dp e (g2.ok.at_ _ hL), dp_mono hid_sub ((eqLs e).dp r2), (eqLs e).shape hn l2, (eqLs e).shape hn l1, by rw [(eqLs e).dec]; exact k _ H2 (g1.trans g2) rfl⟩
/-- list(xs), the copy a thing of its own -/
theorem go_listT {n : Nat} (ha : Ev W ta (tLs K t) xs) (k : ∀ p vxs, p ∉ W.S → vxs.map (·.2) = xs → Go ⟨W.H0, W.M, p :: W.S, cell p (cTg t vxs) :: W.L, W.F, W.G.set n (some (tRf.is p))⟩ us D) :
    Go W (tSeq (tAsg (tCB (fun xs H Q => ∃ p ys, xs = [.ref p] ∧ (SqL K H p ys ∨ SqT K H p ys) ∧ ∀ l, H l = none → Q (.ref l) (upd H l (.lst ys))) (tCons ta tNil)) (gName n)) us) D := fun σ H o => ha σ H o _ fun v H1 g1 ⟨p, vs, e, s, al⟩ => by
  obtain ⟨vxs, e1, e2, h3⟩ := tags_of al
  refine ⟨p, vs, by rw [e], .inl (SqL.of (hid_sub _ _ s)), fun l nl => k l vxs (g1.ok.off nl) e2 _ _ (Ok.put (i := n) (f := tRf.is l) (g1.ok.cell (ψ := cTg t vxs) (o := .lst vs) nl ⟨by rw [e1], h3⟩).1 rfl)⟩
end
end Cs
set_option maxHeartbeats 4000000
namespace Cs
open PySem PySem.Spec PyProof.Rows L2
section
variable {α β γ δ : Type} {W : Wd} {K : PySem.W.Frag} {ta tb tc td : TE} {t : Ty α} {u : Ty β} {x x' : α} {y : β} {tt uu : TT} {ar ak : TA} {fs : List SF} {i : Nat} {E : XK} {ts us vs : TS} {D : Ends} {r : RS} {q p : Addr} {vxs : List (V × α)} {xs ys : List α} {z : Str}
/-- the end of a def that changes things: what is new is what the things have that was not hidden -/
theorem ends_S2 {C C' : List RS} {S : List Addr} {w : Ty β} {P : β → List RS → Prop} {Q : VK} {σ : L2.St} {H : Hp} {v : V} (o : Ok W σ H) (out : RtS C S W.H0 w P Q) (r : w.r (hid W.S H) v y) (hp : P y C') (hS : ∀ a, a ∈ S → a ∈ W.S) (hL : W.L.Perm C') (hM : W.M = fps C) (al : ∀ a, a ∈ S → W.H0 a ≠ none) (hMS : ∀ a, a ∈ fps C → a ∈ S) : Q v H := by
  have o' := o.perm hL
  have sub : ∀ a, a ∈ (fps C').filter (fun a => decide (a ∉ S)) ++ S → a ∈ W.S := fun a m => by
    rcases List.mem_append.mp m with m | m
    · exact (o'.own a (List.mem_filter.mp m).1).1
    · exact hS a m
  refine out v y ((fps C').filter fun a => decide (a ∉ S)) C' H hp (by rw [← hM]; exact o.bt) (fun a m => ?_) o'.nod (fun a m => ?_) (fun a m => o.al a (o.ms a (by rw [hM]; exact m))) (fun c m => c.mono (hid_less sub) (o'.at_ c m)) (w.mono (hid_less sub) r)
  · obtain ⟨m1, m2⟩ := List.mem_filter.mp m
    have m2 : a ∉ S := of_decide_eq_true m2
    refine ⟨?_, o.al a (o'.own a m1).1⟩
    rcases (o'.own a m1).2 with z | z
    · exact absurd (hMS a (by rw [← hM]; exact z)) m2
    · exact z
  · by_cases q : a ∈ S
    · rcases (o'.own a m).2 with z | z
      · exact .inl (by rw [← hM]; exact z)
      · exact absurd z (al a q)
    · exact .inr (List.mem_filter.mpr ⟨m, by simpa using q⟩)
theorem fps_nil_perm {C : List RS} : (C ++ []).Perm C := by rw [List.append_nil]
/-- a draw whose bound is drawn -/
theorem evx_drawSx {P : Int → Prop} {s : Nat} {d l : Addr} {ns : List Int} (hs : W.G[s]? = some (some (tRf.is d))) (hL : cell d (cSt K d l ns) ∈ W.L) (hm : Evx W ta tInt P) (mb : ∀ m, P m → 0 < m ∧ m.natAbs < 2 ^ 8000) :
    Evx W (tCall (spDrawSA K) [] E (tCons (tVar s) (tCons ta tNil))) tInt (fun v => ∃ m, P m ∧ 0 ≤ v ∧ v < m) := fun σ H o Q q => by
  obtain ⟨v, h1, rfl⟩ := o.slots s _ hs
  refine ⟨.ref d, h1, ?_⟩
  refine hm σ H o _ fun v m H1 pm g1 r => ?_
  obtain ⟨ob, hob, b, c, e, gg, rfl, hl, ne, b0⟩ := g1.ok.at_ _ hL
  refine ⟨d, m, l, ns, by rw [show v = .int m from r]; rfl, (mb m pm).1, (mb m pm).2, ⟨b, c, e, gg, hob, hid_sub.seq hl, ne, b0⟩, fun w H2 w0 w1 bt ⟨b', c', e', gg', hob', _, _, b0'⟩ => ?_⟩
  have fd : fps [cell d (cSt K d l ns)] = [d] := rfl
  have bt' : Bt (fps [cell d (cSt K d l ns)]) H1 H2 := fun a o n h => bt a o (fun z => n (by rw [fd, z]; exact List.mem_cons_self ..)) h
  have hd : d ∈ W.S := (g1.ok.own d (mem_fps hL (List.mem_cons_self ..))).1
  have up : Same (hid W.S H1) (hid W.S H2) := bt'.hid (N := []) (fun a m => by rw [fd] at m; rw [List.mem_singleton.mp m]; exact hd) (fun a m => nomatch m)
  have g2 := g1.ok.after (C := [cell d (cSt K d l ns)]) (fun r m => by rw [List.mem_singleton.mp m]; exact hL) bt' (fun a m => by rw [fd] at m; rw [List.mem_singleton.mp m, hob']; simp) (fun r m => by
    rw [List.mem_singleton.mp m]
    exact ⟨_, hob', b', c', e', gg', rfl, up.seq hl, ne, b0'⟩)
  exact q _ w H2 ⟨m, pm, w0, w1⟩ (g1.trans g2) rfl
theorem ivx_list {P : List α → Prop} (h : Evx W ta (tLs K t) P) : Ivx W (iList K ta) t P := fun σ H o R q => h σ H o _ fun v xs H1 px g1 ⟨p, vs, e, s, al⟩ =>
  ⟨p, e, ⟨vs, (SqL.of (hid_sub _ _ s))⟩, q _ _ _ (ffL K t p vs xs) px g1 ⟨SqL.of s, al⟩ ⟨YAt vs, by
    rw [← al.length]
    exact walk_list.mono (fun H ⟨S, z⟩ => hid_sub.seq z.1) fun i H v H' _ _ h => h, fun i H v H' S hi z _ ⟨e1, e2⟩ => by
    subst e1
    obtain ⟨x, h1, h2⟩ := z.2.getV e2
    exact ⟨Same.refl _, x, h1, h2⟩⟩⟩
/-! ### calls that change things, their arguments of several answers -/
theorem evm_callx {C : γ → List RS} {A : γ → List SF} {w : Ty β} {pre : γ → Prop} {post : γ → β → List RS → Prop} {R : List RS} {G : δ → List SF} {P : δ → Prop} (z : δ → γ) (h : Eax W ar G P) (hA : ∀ c, A (z c) = G c) (hp : ∀ c, P c → pre (z c)) (hL : ∀ c, W.L.Perm (C (z c) ++ R)) : Evm W (tCall (spS C A w pre post) [] E ar) w (fun y W' => ∃ c, P c ∧ Aft W R (post (z c) y) W') := fun σ H o Q q => h σ H o _ fun vs c H1 pc g1 r1 => by
  have o1 := g1.ok.perm (hL c)
  refine ⟨W.S, z c, g1.ok.al, (nodup_app.mp o1.nod).1, fun a m => ?_, fun r m => o1.at_ r (List.mem_append_left _ m), by rw [List.append_nil, hA]; exact r1, hp c pc, fun v y N C' H2 py b hN nd hC' al rs r => ?_⟩
  · obtain ⟨r, m1, m2⟩ := of_fps m
    exact (o1.own a (mem_fps (List.mem_append_left _ m1) m2)).1
  · exact q v y _ H2 ⟨c, pc, N, C', py, rfl⟩ (aft_of g1.ok (hL c) b hN nd hC' al rs) r
/-! ### tests that change things -/
def Etm (W : Wd) (tt : TT) (P : Bool → Wd → Prop) : Prop := ∀ σ H, Ok W σ H → ∀ Q : Bool → Hp → Prop, (∀ b W' H', P b W' → Ok W' σ H' → Q b H') → tt σ H Q
theorem etm_B {P : Bool → Wd → Prop} (h : Evm W ta tBl P) : Etm W (tB ta) P := fun σ H o Q q => h σ H o _ fun v b W' H' p o' r => ⟨b, r, q b W' H' p o'⟩
theorem etm_of {P : Bool → Wd → Prop} (h : Evm W ta tBl P) : Etm W (tTest ta) P := fun σ H o Q q => h σ H o _ fun v b W' H' p o' r => ⟨b, r, q b W' H' p o'⟩
theorem etm_not {P : Bool → Wd → Prop} (h : Etm W tt P) : Etm W (tNot tt) (fun b W' => P (!b) W') := fun σ H o Q q => h σ H o _ fun b W' H' p o' => q (!b) W' H' (by show P (!(!b)) W'; rw [Bool.not_not]; exact p) o'
theorem etm_orF {P : Bool → Wd → Prop} (h : Etm W tt P) (hf : ∀ b W', P b W' → b = false) (g : ∀ W', P false W' → Et W' uu false) : Etm W (tOr tt uu) (fun b W' => b = false ∧ P false W') := fun σ H o Q q => h σ H o _ fun b W' H' p o' => by
  obtain rfl := hf b W' p
  show uu σ H' Q
  exact g W' p σ H' o' Q fun H2 g2 => q false W' H2 ⟨rfl, p⟩ g2.ok
theorem go_ifm {P : Bool → Wd → Prop} (h : Etm W tt P) (h1 : ∀ W', P true W' → Go W' ts D) (h2 : ∀ W', P false W' → Go W' us D) : Go W (tIfS tt ts us) D := fun σ H o => h σ H o _ fun b W' H' p o' => by
  cases b with
  | true => exact h1 W' p σ H' o'
  | false => exact h2 W' p σ H' o'
theorem go_ifrm {P : Bool → Wd → Prop} (h : Etm W tt P) (h1 : ∀ W', P true W' → Go W' ts { D with nx := vs D }) (h2 : ∀ W', P false W' → Go W' vs D) : Go W (tSeq (tIfS tt ts tNext) vs) D := go_ifm h h1 h2
/-! ### written forms -/
def rRepr (K : PySem.W.Frag) : List V → Hp → VK → Prop := fun xs H Q => (∃ (v : V) (d : PyData), xs = [v] ∧ Dp K H v d ∧ (∃ a, v = .ref a) ∧ d.showable = true ∧ d.hasDict = false ∧ d.depth ≤ 60 ∧ d.shown.length ≤ sizeLine ∧ Q (.str d.shown) H) ∨
  (∃ i : Int, xs = [.int i] ∧ i.natAbs.log2 < 1920 ∧ Q (.str (toString i)) H) ∨ ∃ y : Str, xs = [.str y] ∧ (reprText y).length ≤ sizeLine ∧ Q (.str (reprText y)) H
theorem call_repr {X : Cx} {K : PySem.W.Frag} (hK : X.K = K) (hg : X.A.guards = some []) (hu : X.A.units + 64 < cLine) : CallR X (.builtin "repr") (rRepr K) := by
  intro pins s σ H xs us Q I r h
  rcases h with h | ⟨i, rfl, hi, q⟩ | ⟨y, rfl, hy, q⟩
  · exact call_repr_dp hK hg hu pins s σ H xs us Q I r h
  · obtain ⟨u, rfl, t, rfl⟩ := vals1 r
    exact PySem.P.repr_of_int hi ⟨.str _, H, I.tok _, ⟨_, rfl⟩, q⟩
  · obtain ⟨u, rfl, t, rfl⟩ := vals1 r
    exact PySem.P.repr_of_str ⟨.str _, H, I.tok _, ⟨_, rfl⟩, q⟩ hy
/-- how a kind is written -/
structure Wrt (K : PySem.W.Frag) (t : Ty α) (sh : α → Str) (ok : α → Prop) : Prop where
  run : ∀ {S : List Addr} {H : Hp} {v : V} {x : α}, t.r (hid S H) v x → ok x → ∀ Q : VK, Q (.str (sh x)) H → rRepr K [v] H Q
theorem ev_repr {sh : α → Str} {ok : α → Prop} (w : Wrt K t sh ok) (h : Ev W ta t x) (hx : ok x) : Ev W (tCB (rRepr K) (tCons ta tNil)) tSt (sh x) := fun σ H o Q q => h σ H o _ fun v H1 g1 r1 => w.run r1 hx _ (q _ H1 g1 rfl)
theorem evm_repr {sh : α → Str} {ok : α → Prop} {P : α → Wd → Prop} (w : Wrt K t sh ok) (h : Evm W ta t P) (hx : ∀ x W', P x W' → ok x) : Evm W (tCB (rRepr K) (tCons ta tNil)) tSt (fun z W' => ∃ x, P x W' ∧ z = sh x) := fun σ H o Q q => h σ H o _ fun v x W' H1 p o1 r1 => w.run r1 (hx x W' p) _ (q _ _ W' H1 ⟨x, p, rfl⟩ o1 rfl)
theorem evm_neS {P : Str → Wd → Prop} (ha : Evm W ta tSt P) (hb : ∀ x W', P x W' → Ev W' tb tSt z) : Evm W (tOp rNe ta tb) tBl (fun b W' => ∃ x, P x W' ∧ b = !decide (x = z)) := fun σ H o Q q => ha σ H o _ fun v x W' H1 p o1 r1 => hb x W' p σ H1 o1 _ fun v2 H2 g2 r2 => by
  obtain rfl : v = .str x := r1
  obtain rfl : v2 = .str z := r2
  exact ⟨rfl, q _ _ W' H2 ⟨x, p, rfl⟩ g2.ok (by show V.bl _ = V.bl _; simp)⟩
/-! ### answers that are new -/
theorem h0_of {σ : L2.St} {H : Hp} (o : Ok W σ H) {a : Addr} (n : H a = none) : W.H0 a = none := by
  cases q : W.H0 a with
  | none => rfl
  | some ob =>
    by_cases hm : a ∈ W.M
    · exact absurd n (o.al a (o.ms a hm))
    · rw [o.bt a ob hm q] at n; cases n
/-- a list that was not there in G -/
def tNw (G : Hp) {α : Type} (t : Ty α) : Ty (List α) := ⟨fun H v xs => ∃ p vs, v = .ref p ∧ H p = some (.lst vs) ∧ All2 (t.r H) vs xs ∧ G p = none, fun e ⟨p, vs, h, g, h1, h2⟩ => ⟨p, vs, h, e _ _ g, All2.mono (fun _ _ => t.mono e) h1, h2⟩⟩
theorem ev_listNw (h : Ev W ta (tLs K t) xs) : Ev W (tCB (fun xs H Q => ∃ p ys, xs = [.ref p] ∧ (SqL K H p ys ∨ SqT K H p ys) ∧ ∀ l, H l = none → Q (.ref l) (upd H l (.lst ys))) (tCons ta tNil)) (tNw W.H0 t) xs := fun σ H o Q q =>
  h σ H o _ fun v H1 g1 ⟨p, vs, ev, s, al⟩ => ⟨p, vs, by rw [ev], .inl ((SqL.of (hid_sub _ _ s))), fun l nl => q _ _ (g1.trans (g1.ok.new nl)) ⟨l, vs, rfl, (by rw [hid_of (g1.ok.off nl)]; exact upd_same), All2.mono (fun _ _ => t.mono (g1.ok.new nl).up) al, h0_of g1.ok nl⟩⟩
/-- as ok_N, the answer's kind told by the heap that was found -/
theorem ok_NH {P : Program} {w : World} {mg : Str → Option Value} {base : Heap} {nm qual : Str} {st : Stmt} {f : Addr} {fd : FuncData} {N ps : List Str} {k : Nat} {C : α → List RS} {A : α → List SF} {wt : Hp → Ty β} {pre : α → Prop} {post : α → β → Prop}
    (F : Fun K nm qual st f fd) (S : FnScope N ps (defScope st)) (hl : ∀ x, (A x).length = ps.length)
    (body : ∀ (cdv : Value) (A' : Around) (outer : List Env) (s : Shared) (H0 : Hp) (S : List Addr) (x : α) (Q : VK) (E : XK), Room k (A'.deeper (envOfC qual (defScope st) s.heap.objs.size f cdv)) → pre x → Rt (C x) S H0 (wt H0) (post x) Q →
      ∃ t, PSs (cxOf CX0 P w K mg base N qual (defScope st) f cdv A' outer s H0 E).nox (defBody st) t ∧ Go ⟨H0, fps (C x), S, C x, [], (A x).map some ++ List.replicate (N.length - ps.length) none⟩ t { nx := fun _ H' => Q .non H', rt := Q }) :
    FnOk P w K mg base CX0 (k + 1) f fd ps (fun vs H Q E => spN C A (wt H) pre post vs H Q E) := by
  refine F.ok S (fun vs H Q E h => ?_) (fun cdv A' outer s H vs Q E hr h => ?_)
  · obtain ⟨S', x, _, _, _, _, ft, _⟩ := h
    rw [ft.length, hl]
  · obtain ⟨S', x, al, nd, sub, cc, ft, hp, out⟩ := h
    obtain ⟨t, h1, h2⟩ := body cdv A' outer s H S' x Q E hr hp (fun v y H' => out v y H')
    refine ⟨t, h1, h2 _ _ ⟨nd, fun a m => ⟨sub a m, .inl m⟩, cc, sub, al, Bt.refl, ?_, (fun f m => nomatch m), fun i f' q => ?_⟩⟩
    · have e1 := ft.length
      have e2 := hl x
      show (L2.start N vs).length = _
      unfold L2.start
      simp only [List.length_append, List.length_map, List.length_replicate]
      omega
    · exact start_slots (by rw [ft.length, hl]) ft q
end
end Cs
set_option maxHeartbeats 4000000
namespace Cs
open PySem PySem.Spec PyProof.Rows L2
section
variable {α β γ δ : Type} {W : Wd} {K : PySem.W.Frag} {ta tb tc td : TE} {t : Ty α} {u : Ty β} {x x' : α} {y : β} {tt uu : TT} {ar ak : TA} {fs : List SF} {i : Nat} {E : XK} {ts us vs : TS} {D : Ends} {r : RS} {q p : Addr} {vxs : List (V × α)} {xs ys : List α} {z : Str}
/-- a list whose items do not lean on the list itself -/
def tLsH {α : Type} (t : Ty α) : Ty (List α) := ⟨fun H v xs => ∃ p vs, v = .ref p ∧ H p = some (.lst vs) ∧ All2 (t.r (hid [p] H)) vs xs, fun e ⟨p, vs, h, g, h1⟩ => ⟨p, vs, h, e _ _ g, All2.mono (fun _ _ => t.mono (hid_same e)) h1⟩⟩
theorem evx_pr1 {P : β → Prop} {P' : α × β → Prop} (ha : Ev W ta t x) (hb : Evx W tb u P) (h : ∀ y, P y → P' (x, y)) : Evx W (tTup (tCons ta (tCons tb tNil))) (tPr K t u) P' := fun σ H o Q q =>
  ha σ H o _ fun v H1 g1 r1 => hb σ H1 g1.ok _ fun v2 y H2 py g2 r2 => ⟨by show 2 ≤ sizeLine; decide, fun p np => q _ (x, y) _ (h y py) ((g1.trans g2).trans (g2.ok.new np))
    ⟨p, v, v2, rfl, SqT.of (by rw [hid_of (g2.ok.off np)]; exact upd_same), t.mono (g2.up.trans (g2.ok.new np).up) r1, u.mono (g2.ok.new np).up r2⟩⟩
end
section
variable {α β γ : Type} {W : Wd} {K : PySem.W.Frag} {ta tb tc : TE} {t : Ty α} {u : Ty β} {x : α} {y : β} {tt uu : TT} {ar : TA} {ts us : TS} {D : Ends} {g : TG} {as : α → List (Nat × SF)} {wi : TI}
theorem evx_lcH {xs : List α} {P : α → Bool → Prop} {R : α → β → Prop} {vs : List Nat} (h : Iv W wi t xs) (tg : Tgt g t as) (hi : ∀ x, ∀ p ∈ as x, p.1 ∈ vs) (hl : xs.length < sizeLine)
    (ht : ∀ D φ F x, (∀ f ∈ W.F, f ∈ F) → x ∈ xs → Etx ((W.el D φ F vs).puts (as x)) tt (P x))
    (he : ∀ D φ F x, (∀ f ∈ W.F, f ∈ F) → x ∈ xs → P x true → Evx ((W.el D φ F vs).puts (as x)) tb u (R x)) (hp : ∀ (W : Wd) x, (W.puts (as x)).H0 = W.H0 ∧ (W.puts (as x)).M = W.M ∧ (W.puts (as x)).S = W.S ∧ (W.puts (as x)).L = W.L ∧ (W.puts (as x)).F = W.F := by intros; exact ⟨rfl, rfl, rfl, rfl, rfl⟩) :
    Evx W (tLc wi g tt tb vs) (tLsH u) (LcR P R xs) := fun σ H o Q q => by
  refine h σ H o _ fun J H1 f g1 fp wk => ?_
  intro D nD
  obtain ⟨Y, wY, hY⟩ := wk.ex
  let Wk : List β → Wd := fun ys => ⟨W.H0, W.M, D :: W.S, cell D (cLs u ys) :: W.L, f :: ffS (hid W.S H1) :: W.F, W.G⟩
  have start : Ok (Wk []) σ (upd H1 D (.lst [])) := by
    obtain ⟨o1, up⟩ := g1.ok.cell (ψ := cLs u ([] : List β)) nD ⟨[], rfl, trivial⟩
    exact Ok.know (Ok.know o1 (f := ffS (hid W.S H1)) up) (f := f) (f.mono up fp)
  have ff : ∀ ys H, Ok (Wk ys) σ H → f.p (hid (D :: W.S) H) := fun ys H o => o.facts f (List.mem_cons_self ..)
  refine lc_it wY (fun k H' => ∃ ys, LcR P R (xs.take k) ys ∧ Ok (Wk ys) σ H') ⟨[], .nil, start⟩ (fun k H' _ ⟨ys, _, o'⟩ => ⟨_, ff ys H' o'⟩) ?_ ?_
  · rintro k v H0' H' hk ⟨ys, rel, o'⟩ y
    obtain ⟨e, x, hx, rx⟩ := hY k H0' v H' _ hk (ff ys H0' o') o'.al y
    have o' := o'.same e
    have xm := List.mem_of_getElem? hx
    have sub : ∀ q ∈ W.F, q ∈ f :: ffS (hid W.S H1) :: W.F := fun q m => List.mem_cons_of_mem _ (List.mem_cons_of_mem _ m)
    refine tg _ _ H' v x (Ok.wipe (vs := vs) o') rx _ fun σ' oe ew => ?_
    refine ⟨by rw [ew vs (hi x), wipe_twice], ?_⟩
    have back : ∀ H2, Go1 (((W.el D (cLs u ys) (f :: ffS (hid W.S H1) :: W.F) vs).puts (as x))) σ' H' H2 → Ok (Wk ys) σ H2 := fun H2 g2 => by
      obtain ⟨p1, p2, p3, p4, p5⟩ := hp (W.el D (cLs u ys) (f :: ffS (hid W.S H1) :: W.F) vs) x
      have o2 := g2.ok
      have up := g2.up
      rw [p3] at up
      have o3 : Ok { Wk ys with G := ((W.el D (cLs u ys) (f :: ffS (hid W.S H1) :: W.F) vs).puts (as x)).G } σ' H2 := by
        have : ((W.el D (cLs u ys) (f :: ffS (hid W.S H1) :: W.F) vs).puts (as x)) = { Wk ys with G := ((W.el D (cLs u ys) (f :: ffS (hid W.S H1) :: W.F) vs).puts (as x)).G } := by
          generalize ((W.el D (cLs u ys) (f :: ffS (hid W.S H1) :: W.F) vs).puts (as x)) = Z at p1 p2 p3 p4 p5 ⊢
          cases Z
          cases p1; cases p2; cases p3; cases p4; cases p5
          rfl
        rw [← this]
        exact o2
      exact Ok.swap (W := Wk ys) o' o3 up
    refine ht D _ _ x sub xm _ _ oe _ fun b H2 pb g2 => ?_
    cases b with
    | false =>
      refine iteF ⟨ys, ?_, back H2 g2⟩
      rw [take_snoc hx]
      exact .skip rel pb
    | true =>
      refine iteT ?_
      refine he D _ _ x sub xm pb _ _ g2.ok _ fun w z H3 pz g3 rz => ?_
      have o3 := back H3 (g2.trans g3)
      obtain ⟨ob, hob, us', rfl, hus⟩ := o3.at_ _ (List.mem_cons_self ..)
      refine ⟨us', hob, ?_, ys ++ [z], ?_, ?_⟩
      · rw [hus.length]
        refine Nat.lt_of_le_of_lt (Nat.le_trans rel.len ?_) hl
        rw [List.length_take]
        omega
      · rw [take_snoc hx]
        exact .take rel pb pz
      · rw [(hp (W.el D (cLs u ys) (f :: ffS (hid W.S H1) :: W.F) vs) x).2.2.1] at rz
        exact (o3.write (ψ := cLs u (ys ++ [z])) (o := .lst (us' ++ [w])) rfl ⟨_, rfl, hus.app (ws := [w]) (ys := [z]) ⟨rz, trivial⟩⟩).ok
  · rintro H' ⟨ys, rel, o2⟩
    rw [List.take_length] at rel
    obtain ⟨ob, hob, us', rfl, hus⟩ := o2.at_ _ (List.mem_cons_self ..)
    have up := o2.facts (ffS (hid W.S H1)) (List.mem_cons_of_mem _ (List.mem_cons_self ..))
    have less : Same (hid (D :: W.S) H') (hid W.S H') := hid_less fun a h => List.mem_cons_of_mem _ h
    have o3 := Ok.drop (N := [D]) o2 (ok_sub g1.ok) g1.ok.ms
    have o4 : Ok W σ H' := ⟨o3.nod, o3.own, o3.at_, o3.ms, o3.al, o3.bt, o3.len, fun f m => o3.facts f (List.mem_cons_of_mem _ (List.mem_cons_of_mem _ m)), o3.slots⟩
    refine q _ ys _ rel (g1.trans ⟨o4, up.trans less⟩) ⟨D, us', rfl, ?_, All2.mono (fun _ _ => u.mono fun a o h => ?_) hus⟩
    · rw [hid_of (g1.ok.off nD)]
      exact hob
    · unfold hid at h ⊢
      split at h
      · cases h
      · rename_i n
        rw [if_neg (fun m => n (by rw [List.mem_singleton.mp m]; exact List.mem_cons_self ..)), if_neg (fun m => n (List.mem_cons_of_mem _ m))]
        exact h
theorem ev_lcmH {xs : List α} {f : α → β} {vs : List Nat} (h : Iv W wi t xs) (tg : Tgt g t as) (hi : ∀ x, ∀ p ∈ as x, p.1 ∈ vs) (hl : xs.length < sizeLine)
    (he : ∀ D φ F x, (∀ f ∈ W.F, f ∈ F) → x ∈ xs → Ev ((W.el D φ F vs).puts (as x)) tb u (f x)) (hp : ∀ (W : Wd) x, (W.puts (as x)).H0 = W.H0 ∧ (W.puts (as x)).M = W.M ∧ (W.puts (as x)).S = W.S ∧ (W.puts (as x)).L = W.L ∧ (W.puts (as x)).F = W.F := by intros; exact ⟨rfl, rfl, rfl, rfl, rfl⟩) :
    Ev W (tLc wi g tYes tb vs) (tLsH u) (xs.map f) := fun σ H o Q q =>
  evx_lcH (P := fun _ b => b = true) (R := fun x y => y = f x) h tg hi hl (fun D φ F x hF hx => et_yes.toX rfl) (fun D φ F x hF hx e => (he D φ F x hF hx).x rfl) hp σ H o Q fun v ys H' r g1 rr => q v H' g1 (by
    have e : ys = (xs.filter fun _ => true).map f := LcR.det (p := fun _ => true) r
    rw [filter_yes] at e
    exact e ▸ rr)
end
section
variable {α β γ δ : Type} {W : Wd} {K : PySem.W.Frag} {ta tb tc td : TE} {t : Ty α} {u : Ty β} {x x' : α} {y : β} {tt uu : TT} {ar ak : TA} {fs : List SF} {i : Nat} {E : XK} {ts us vs : TS} {D : Ends} {r : RS} {q p : Addr} {vxs : List (V × α)} {xs ys : List α} {z : Str}
/-- p.append(e), e of several answers -/
theorem go_app1Tx {R : List RS} {P : α → Prop} (hL : W.L.Perm (cell p (cTg t vxs) :: R)) (ho : Ev W ta tRf p) (ha : Evx W tb t P) (hl : vxs.length < sizeLine) (k : ∀ v x, P x → ∀ σ H, Ok { W with L := cell p (cTg t (vxs ++ [(v, x)])) :: R } σ H → D.nx σ H) :
    Go W (tDrop (tBM K "list" rAppend ta (tCons tb tNil))) D := fun σ H o => ho σ H o _ fun w H1 g1 r1 => by
  obtain rfl : w = .ref p := r1
  have mem : cell p (cTg t vxs) ∈ W.L := hL.mem_iff.mpr (List.mem_cons_self ..)
  obtain ⟨ob, hob, rfl, _⟩ := g1.ok.at_ _ mem
  refine ⟨.inl ⟨rfl, _, SqL.of hob⟩, ha σ H1 g1.ok _ fun y x H2 px g2 ry => ?_⟩
  obtain ⟨ob, hob, rfl, al⟩ := g2.ok.at_ _ mem
  refine ⟨p, _, y, rfl, rfl, hob, by rw [List.length_map]; exact hl, k y x px _ _ ((g2.ok.perm hL).write (ψ := cTg t (vxs ++ [(y, x)])) rfl ⟨by rw [List.map_append]; rfl, fun q m => ?_⟩).ok⟩
  rcases List.mem_append.mp m with m | m
  · exact al q m
  · rw [List.mem_singleton.mp m]; exact ry
/-- the list is done: it is read only -/
theorem go_frzT {S : List Addr} {L : List RS} {H0 : Hp} {M : List Addr} {F : List FF} {G : List (Option SF)} (hp : G[i]? = some (some (tRf.is p))) (hM : ∀ a ∈ M, a ∈ S) (hn : p ∉ S) (hS : ∀ a, a ∈ fps L → a ∈ S)
    (k : Go ⟨H0, M, S, L, F, G.set i (some ((tLs K t).is (vxs.map (·.2))))⟩ ts D) : Go ⟨H0, M, p :: S, cell p (cTg t vxs) :: L, F, G⟩ ts D := fun σ H o => by
  obtain ⟨v, h1, h2⟩ := o.slots i _ hp
  obtain rfl : v = .ref p := h2
  obtain ⟨ob, hob, rfl, al⟩ := o.at_ _ (List.mem_cons_self ..)
  have o2 := Ok.drop (N := [p]) o hS hM
  have up : Same (hid (p :: S) H) (hid S H) := hid_less fun a h => List.mem_cons_of_mem _ h
  have o3 := Ok.put (i := i) (v := .ref p) (f := (tLs K t).is (vxs.map (·.2))) o2 ⟨p, _, rfl, (by rw [hid_of hn]; exact hob), all2_tags fun q m => t.mono up (al q m)⟩
  rw [set_self h1] at o3
  exact k σ H o3
/-- an if of two suites whose ends meet -/
theorem go_ifj2 {ι : Type} {P : Bool → Prop} (Wj : ι → Wd) (Pj : ι → Prop) (h : Etx W tt P) (h1 : P true → ∀ nx : L2.St → Hp → Prop, (∀ c, Pj c → ∀ σ H, Ok (Wj c) σ H → nx σ H) → Go W ts { D with nx := nx }) (h2 : P false → ∀ nx : L2.St → Hp → Prop, (∀ c, Pj c → ∀ σ H, Ok (Wj c) σ H → nx σ H) → Go W us { D with nx := nx }) (hk : ∀ c, Pj c → Go (Wj c) vs D) : Go W (tSeq (tIfS tt ts us) vs) D :=
  go_ifx (D := { D with nx := vs D }) h (fun p => h1 p (vs D) fun c pc σ H o => hk c pc σ H o) fun p => h2 p (vs D) fun c pc σ H o => hk c pc σ H o
/-- as ok_P, for the law itself -/
theorem ok_PA {P : Program} {w : World} {mg : Str → Option Value} {base : Heap} {nm qual : Str} {st : Stmt} {f : Addr} {fd : FuncData} {N ps : List Str} {k : Nat} {A : α → List SF} {wt : Ty β} {pre : α → Prop} {g : α → β} (hroom : Room (k + 1) callerA)
    (F : Fun K nm qual st f fd) (S : FnScope N ps (defScope st)) (hl : ∀ x, (A x).length = ps.length)
    (body : ∀ (cdv : Value) (s : Shared) (H0 : Hp) (S : List Addr) (x : α) (Q : VK) (E : XK), Room k (callerA.deeper (envOfC qual (defScope st) s.heap.objs.size f cdv)) → pre x → Rt [] S H0 wt (fun y => y = g x) Q →
      ∃ t, PSs (cxOf CX0 P w K mg base N qual (defScope st) f cdv callerA [] s H0 E).nox (defBody st) t ∧ Go ⟨H0, [], S, [], [], (A x).map some ++ List.replicate (N.length - ps.length) none⟩ t { nx := fun _ H' => Q .non H', rt := Q }) :
    RunAt P w K mg base f fd ps (spP A wt pre g) := by
  refine run_at hroom F S (fun vs H Q E h => ?_) (fun cdv s H vs Q E hr h => ?_)
  · obtain ⟨S', x, _, _, _, _, ft, _⟩ := h
    rw [ft.length, hl]
  · obtain ⟨S', x, al, nd, sub, cc, ft, hp, out⟩ := h
    obtain ⟨t, h1, h2⟩ := body cdv s H S' x Q E hr hp (fun v y H' => out v y H')
    refine ⟨t, h1, h2 _ _ ⟨nd, fun a m => ⟨sub a m, .inl m⟩, cc, (fun a m => nomatch m), al, Bt.refl, ?_, (fun f m => nomatch m), fun i f' q => ?_⟩⟩
    · have e1 := ft.length
      have e2 := hl x
      show (L2.start N vs).length = _
      unfold L2.start
      simp only [List.length_append, List.length_map, List.length_replicate]
      omega
    · exact start_slots (by rw [ft.length, hl]) ft q
theorem ok_forget {σ : L2.St} {H : Hp} {j : Nat} {o : Option V} (h : Ok { W with G := W.G.set j none } σ H) : Ok { W with G := W.G.set j none } (σ.set j o) H :=
  ⟨h.nod, h.own, h.at_, h.ms, h.al, h.bt, by show (σ.set j o).length = _; rw [List.length_set]; exact h.len, h.facts, fun k g q => by
    have q : (W.G.set j none)[k]? = some (some g) := q
    by_cases e : j = k
    · subst e
      by_cases l : j < W.G.length
      · rw [List.getElem?_set, if_pos rfl, if_pos l] at q; cases q
      · rw [List.getElem?_set, if_pos rfl, if_neg l] at q; cases q
    · obtain ⟨w, h1, h2⟩ := h.slots k g q
      exact ⟨w, by rw [List.getElem?_set, if_neg e]; exact h1, h2⟩⟩
theorem ok_hush {σ : L2.St} {H : Hp} {j : Nat} (h : Ok W σ H) : Ok { W with G := W.G.set j none } σ H :=
  ⟨h.nod, h.own, h.at_, h.ms, h.al, h.bt, by show σ.length = (W.G.set j none).length; rw [List.length_set]; exact h.len, h.facts, fun k g q => by
    have q : (W.G.set j none)[k]? = some (some g) := q
    by_cases e : j = k
    · subst e
      by_cases l : j < W.G.length
      · rw [List.getElem?_set, if_pos rfl, if_pos l] at q; cases q
      · rw [List.getElem?_set, if_pos rfl, if_neg l] at q; cases q
    · rw [List.getElem?_set, if_neg e] at q
      exact h.slots k g q⟩
end
end Cs
set_option maxHeartbeats 4000000
namespace Cs
open PySem PySem.Spec PyProof.Rows L2
/-! ### dicts with keys that are tuples of texts -/
/-- d.setdefault(y, z), d a dict with keys that are tuples -/
def tDSetdT (td ty tx : TE) : TE := fun σ H Q => td σ H fun x H1 => ∃ a, x = .ref a ∧ IsD H1 a ∧ ty σ H1 fun y H2 => tx σ H2 fun z H3 => ∃ (kvs : List (List Key × V)) (k : List Key) (b : Addr), H3 a = some (.dT kvs) ∧ y = .ref b ∧ H3 b = some (.tup (k.map kV)) ∧ kvs.length < sizeLine ∧
  (∀ v, valV kvs k = some v → Q v H3) ∧ (valV kvs k = none → Q z (upd H3 a (.dT (putK kvs k z))))
section
variable {X : Cx} {pins : List (Addr × Obj)} {σ : L2.St} {H : Hp} {s : Shared} {a b : Addr} {u r : Value} {d : V} {k : List Key} {A : Around} {E : Value → Shared → Prop}
theorem d_setdT {kvs : List (List Key × V)} {Q : Value → Shared → Prop} (hu : A.units + 1 < cLine) (I : Inv X pins σ H s) (e : H a = some (.dT kvs)) (eb : H b = some (.tup (k.map kV))) (rd : RelV d r) (hl : kvs.length < sizeLine)
    (h1 : ∀ v, valV kvs k = some v → ∀ (w' : Value) (s' : Shared), Inv X pins σ H s' → RelV v w' → Q w' s') (h2 : valV kvs k = none → ∀ (w' : Value) (s' : Shared), Inv X pins σ (upd H a (.dT (putK kvs k d))) s' → RelV d w' → Q w' s') :
    wpAny (model X.prog X.w) A (call (.builtin "dict.setdefault") [.ref a, .ref b, r]) Q E s := by
  obtain ⟨z, hd, xs, rel, dd⟩ := dt_of I.hok e
  have hz : xs.length ≤ sizeLine := by rw [← Paired.length rel]; exact z
  have hl2 : (putK kvs k d).length ≤ sizeLine := by have := length_putK kvs k d; omega
  have q := rel.val k
  refine call_setdefault_heap (hsz := hz) (tupleKind_room_in1 hu) (key_of I.hok eb) hd dd (fun p hp => ?_) (fun hn h' dd' hs => ?_)
  · rw [hp] at q
    cases q0 : valV kvs k with
    | none => rw [q0] at q; exact (show False from q).elim
    | some v0 => rw [q0] at q; exact h1 v0 q0 _ _ (I.tok _) q
  · rw [hn] at q
    cases q0 : valV kvs k with
    | some v0 => rw [q0] at q; exact (show False from q).elim
    | none =>
      refine h2 q0 _ _ ?_ rd
      obtain ⟨ob, es, ep, hq, g2, g3, g4, _, g5⟩ := dd'
      refine d_write I (by rw [e]; exact True.intro) hs ⟨ob, hq⟩ ⟨hl2, hd, _, (rel.put k eb rd).keeps fun c ys ec => ?_, ob, es, ep, hq, g2, g3, g4, g5⟩
      rw [upd_ne (ne_of ec e (fun z => nomatch z))]
      exact ec
theorem pe_dsetdT {o e f : Expr} {td ty tx : TE} {apos cpos : Pos} (hu : X.A.units + 1 < cLine) (ho : PE X o td) (he : PE X e ty) (hf : PE X f tx) (m : M2 X o "setdefault" apos e f cpos) : PE X (.Call (.Attribute o "setdefault" apos) [e, f] [] cpos) (tDSetdT td ty tx) := by
  refine ⟨fun pins s σ H Q I h => ?_⟩
  refine wpAny_Call_method m.base m.few m.line PySem.F.plainAttrs_dict PySem.F.slot_dict_setdefault PySem.F.type_dict_setdefault (thn (ho.run pins s σ H _ I h) fun u s1 ⟨x, H1, I1, rx, a, ex, d, q1⟩ => ?_)
  subst ex
  obtain rfl : u = Value.ref a := rx
  obtain ⟨t1, t2, _⟩ := isD_at I1 d
  refine ⟨t1, t2, ?_⟩
  rw [m.trees]
  refine Calls.callWith_builtin rfl (Calls.evalArgs_plain (Calls.spliced_cons (thn (he.run pins s1 σ H1 _ I1 q1) fun iv s2 ⟨y, H2, I2, ry, q2⟩ =>
    Calls.spliced_cons (thn (hf.run pins s2 σ H2 _ I2 q2) fun fv s3 ⟨z, H3, I3, rz, kvs, k, b, ea, ey, eb, hl, q3, q4⟩ => Calls.spliced_nil ?_))))
  subst ey
  obtain rfl : iv = Value.ref b := ry
  exact d_setdT hu I3 ea eb rz hl (fun v hv w' s4 I4 rw' => ⟨v, _, I4, rw', q3 v hv⟩) fun hn w' s4 I4 rw' => ⟨z, _, I4, rw', q4 hn⟩
end
/-- list(d.values()), d a dict with keys that are tuples -/
def tListValsT (td : TE) : TE := fun σ H Q => td σ H fun x H1 => ∃ (a : Addr) (kvs : List (List Key × V)), x = .ref a ∧ H1 a = some (.dT kvs) ∧ ∀ q, H1 q = none → Q (.ref q) (upd H1 q (.lst (kvs.map (·.2))))
theorem vals_atT {H : Hp} {kvs : List (List Key × V)} {xs : List (List Key × Addr × Value)} {us : List Value} (r : KT H kvs xs) (hl : us.length = xs.length) (h : ∀ (j : Nat) (v : Value), us[j]? = some v → ∃ y, xs[j]? = some y ∧ v = y.2.2) : Vals (kvs.map (·.2)) us := by
  have e : us = xs.map (·.2.2) := by
    refine List.ext_getElem? fun j => ?_
    rw [List.getElem?_map]
    cases c : us[j]? with
    | none =>
      rw [List.getElem?_eq_none_iff] at c
      rw [List.getElem?_eq_none (by omega)]
      rfl
    | some v =>
      obtain ⟨y, hy, rfl⟩ := h j v c
      rw [hy]
      rfl
  rw [e]
  clear h hl e
  induction r with
  | nil => exact .nil
  | cons q _ ih => exact .cons q.2.2 ih
theorem pe_listValsT {X : Cx} {o : Expr} {td : TE} {p pos apos mpos : Pos} (hc : X.calm = true) (hg : Gl X "list") (hm : X.mg "list" = none) (hd : PE X o td) (hbase : attributeBase o "values" X.env (eval o X.env) = eval o X.env := by rfl) (hline : (apos.endLine == mpos.line) = true := by rfl)
    (hs : starEach [.Call (.Attribute o "values" apos) [] [] mpos] X.env = (false, eval (.Call (.Attribute o "values" apos) [] [] mpos) X.env) :: starEach [] X.env := by rfl) : PE X (.Call (.Name "list" p) [.Call (.Attribute o "values" apos) [] [] mpos] [] pos) (tListValsT td) := by
  refine ⟨fun ps s σ H Q I h => ?_⟩
  refine Call_ (ld_blt I hg hm boot_list (PyProof.Rows.callWith_type1 (args_cons ?_ hs) hs rfl))
  refine wpAny_Call_method (T := "dict") (id := "dict.values") hbase rfl hline F.plainAttrs_dict F.slot_dict_values F.type_dict_values (thn (hd.run ps s σ H _ I h) fun u s1 => ?_)
  rintro ⟨x, H1, I1, rx, a, kvs, rfl, ha, q⟩
  obtain rfl : u = Value.ref a := rx
  obtain ⟨z, lo, xs, rel, dof⟩ := dt_of I1.hok ha
  obtain ⟨t1, t2, _⟩ := isD_at I1 (.inr ⟨kvs, .inl ha⟩)
  refine ⟨t1, t2, ?_⟩
  obtain ⟨es, ep, raw, hsz, hes⟩ := Heap.DictOfH.raw dof
  show wpAny _ _ (callWith mpos (.builtin "dict.values") [.ref a] [] []) _ X.xe s1
  have up : ∀ b ob, s1.heap.get? b = some ob → (s1.heap.push { cls := .type "dict_values", data := .fields #[.ref a] }).get? b = some ob := fun b ob e => Heap.get?_push_of_some _ e
  have I2 : Inv X ps σ H1 { s1 with heap := s1.heap.push { cls := .type "dict_values", data := .fields #[.ref a] } } := I1.kept (t' := s1.toks) up
  have lxs : xs.length = kvs.length := (Paired.length rel).symm
  refine method_meetsIn F.slot_dict_values F.entry_dict_values rfl (PySem.evalArgs_none ⟨rfl, t1, F.args_dict_values_1 _, _, meets_dict_values_raw a lo, ⟨⟨es, ep, raw⟩, args_nil ?_⟩⟩)
  refine PySem.W.kdl_call (PySem.KdlSrc.rawValues (r := s1.heap.objs.size) (d := a) (es := es) (ep := ep)) (I1.ok.hd hc) ⟨⟨_, Heap.get?_push_size _ rfl, rfl, rfl⟩, raw.at fun _ e => up _ _ e⟩ (by rw [hsz, lxs]; exact z) fun h' tk acc c' hk hD hacc => ?_
  have hv : Vals (kvs.map (·.2)) acc.toList := vals_atT rel (by rw [Array.length_toList]; exact hacc.1.trans hsz) fun j v e => by
    obtain ⟨hi, rfl⟩ := hacc.2 j v (by rw [← Array.getElem?_toList]; exact e)
    obtain ⟨y, hy, _, e2, _⟩ := hes j hi
    exact ⟨y, hy, e2⟩
  refine ⟨.ref _, upd H1 _ (.lst (kvs.map (·.2))), I2.laid (t' := tk) hk (Nat.le_refl _) (show ObjOk X.prog X.w _ _ _ (.lst (kvs.map (·.2))) from ⟨by rw [List.length_map]; exact z, acc.toList, c', hv, by rw [Array.toArray_toList]; exact hD⟩), rfl, q _ (I2.hok.fresh (Nat.le_refl _))⟩
/-! ### in the typed layer -/
abbrev TagT (α : Type) := List Str × V × α
def mapTv {α : Type} (ms : List (TagT α)) : List (List Key × V) := ms.map fun m => (m.1.map Sum.inr, m.2.1)
def cMapT {α : Type} (t : Ty α) (ms : List (TagT α)) : CF := ⟨fun F o => o = .dT (mapTv ms) ∧ ∀ m ∈ ms, t.r F m.2.1 m.2.2, fun e ⟨h, g⟩ => ⟨h, fun m mm => t.mono e (g m mm)⟩⟩
/-- a tuple of texts, a key -/
def tKey : Ty (List Str) := ⟨fun F v xs => ∃ p, v = .ref p ∧ F p = some (.tup (xs.map V.str)), fun e ⟨p, h, g⟩ => ⟨p, h, e _ _ g⟩⟩
theorem key_map (xs : List Str) : xs.map V.str = (xs.map (Sum.inr : Str → Key)).map kV := by
  rw [List.map_map]
  rfl
theorem inr_inj : ∀ {xs ys : List Str}, xs.map (Sum.inr : Str → Key) = ys.map Sum.inr → xs = ys
  | [], [], _ => rfl
  | [], _ :: _, h => by cases h
  | _ :: _, [], h => by cases h
  | x :: xs, y :: ys, h => by
    rw [List.map_cons, List.map_cons] at h
    injection h with h1 h2
    injection h1 with h1
    rw [h1, inr_inj h2]
theorem mapT_val {α : Type} : ∀ {ms : List (TagT α)} {k : List Str}, (valV (mapTv ms) (k.map Sum.inr)).isSome = decide (k ∈ ms.map (·.1))
  | [], k => rfl
  | m :: ms, k => by
    have ih := mapT_val (ms := ms) (k := k)
    unfold valV mapTv at ih ⊢
    rw [List.map_cons, List.find?_cons, List.map_cons]
    by_cases q : m.1 = k
    · simp [q]
    · have : ¬ (m.1.map (Sum.inr : Str → Key) = k.map Sum.inr) := fun z => q (inr_inj z)
      simp only [this, decide_false]
      rw [show (decide (k ∈ m.1 :: ms.map (·.1))) = decide (k ∈ ms.map (·.1)) from by rw [Bool.eq_iff_iff, decide_eq_true_eq, decide_eq_true_eq, List.mem_cons]; exact ⟨fun h => h.resolve_left fun e => q e.symm, .inr⟩]
      exact ih
theorem mapT_put {α : Type} {ms : List (TagT α)} {k : List Str} {v : V} {x : α} (h : k ∉ ms.map (·.1)) : putK (mapTv ms) (k.map Sum.inr) v = mapTv (ms ++ [(k, v, x)]) := by
  have e : ((mapTv ms).any fun kv => decide (kv.1 = k.map Sum.inr)) = false := by
    rw [List.any_eq_false]
    intro kv m
    unfold mapTv at m
    obtain ⟨m0, mm, rfl⟩ := List.mem_map.mp m
    simp only [decide_eq_true_eq]
    exact fun z => h (inr_inj z ▸ List.mem_map_of_mem (f := (·.1)) mm)
  unfold putK
  rw [e]
  unfold mapTv
  rw [List.map_append]
  rfl
theorem strs_of {F : Hp} : ∀ {vs : List V} {xs : List Str}, All2 (tSt.r F) vs xs → vs = xs.map V.str
  | [], [], _ => rfl
  | [], _ :: _, h => h.elim
  | _ :: _, [], h => h.elim
  | v :: vs, x :: xs, h => by rw [List.map_cons, ← strs_of h.2, show v = V.str x from h.1]
section
variable {α β γ δ : Type} {W : Wd} {K : PySem.W.Frag} {ta tb tc td ty tx : TE} {t : Ty α} {u : Ty β} {x x' : α} {y : β} {ar ak : TA} {fs : List SF} {i : Nat} {us vs : TS} {D : Ends} {p : Addr} {ms : List (TagT α)} {xs : List Str} {P : List Str → Prop}
/-- tuple(xs) -/
theorem ev_tupOf (h : Ev W ta (tLs K tSt) xs) : Ev W (tThen ta (kTup K)) tKey xs := fun σ H o Q q => h σ H o _ fun v H1 g1 ⟨p, vs, e, s, al⟩ => by
  have e2 : vs = xs.map V.str := strs_of al
  subst e2
  exact .inl ⟨p, _, e, SqL.of (hid_sub _ _ s), fun l nl => q _ _ (g1.trans (g1.ok.new nl)) ⟨l, rfl, by rw [hid_of (g1.ok.off nl)]; exact upd_same⟩⟩
theorem evx_tupOf (h : Evx W ta (tLs K tSt) P) : Evx W (tThen ta (kTup K)) tKey P := fun σ H o Q q => h σ H o _ fun v xs H1 px g1 ⟨p, vs, e, s, al⟩ => by
  have e2 : vs = xs.map V.str := strs_of al
  subst e2
  exact .inl ⟨p, _, e, SqL.of (hid_sub _ _ s), fun l nl => q _ _ _ px (g1.trans (g1.ok.new nl)) ⟨l, rfl, by rw [hid_of (g1.ok.off nl)]; exact upd_same⟩⟩
/-- sorted(xs), texts -/
theorem evx_sortS (h : Ev W ta (tLs K tSt) xs) (h64 : xs.length < 64) : Evx W (tCB (rSortedS K) (tCons ta tNil)) (tLs K tSt) (fun ys => ys.Perm xs ∧ sortedS ys = true) := fun σ H o Q q => h σ H o _ fun v H1 g1 ⟨p, vs, e, s, al⟩ => by
  have e2 : vs = xs.map V.str := strs_of al
  subst e2 e
  exact ⟨p, xs, rfl, SqL.of (hid_sub _ _ s), h64, fun ys l pm so nl => q _ ys _ ⟨pm, so⟩ (g1.trans (g1.ok.new nl)) ⟨l, _, rfl, by rw [hid_of (g1.ok.off nl)]; exact upd_same, all2_str _ ys⟩⟩
/-- d = {} -/
theorem go_newMT (t : Ty α) (k : ∀ p, p ∉ W.S → Go ⟨W.H0, W.M, p :: W.S, cell p (cMapT t []) :: W.L, W.F, W.G.set i (some (tRf.is p))⟩ us D) : Go W (tSeq (tAsg tDNewT (gName i)) us) D := fun σ H o =>
  fun p np => k p (o.off np) _ _ (Ok.put (i := i) (f := tRf.is p) (o.cell (ψ := cMapT t []) np ⟨rfl, fun m mm => nomatch mm⟩).1 rfl)
/-- d.setdefault(key, x) -/
theorem go_setdT {s : Nat} {R : List RS} {nx : L2.St → Hp → Prop} (hs : W.G[s]? = some (some (tRf.is p))) (hL : W.L.Perm (cell p (cMapT t ms) :: R)) (ha : Evx W ta tKey P) (hb : Ev W tb t x) (hl : ms.length < sizeLine) (hD : D.nx = nx)
    (k1 : ∀ key, P key → key ∈ ms.map (·.1) → ∀ σ H, Ok W σ H → nx σ H) (k2 : ∀ key v, P key → key ∉ ms.map (·.1) → ∀ σ H, Ok { W with L := cell p (cMapT t (ms ++ [(key, v, x)])) :: R } σ H → nx σ H) : Go W (tDrop (tDSetdT (tVar s) ta tb)) D := fun σ H o => by
  obtain ⟨w, h1, rfl⟩ := o.slots s _ hs
  obtain ⟨ob0, hob0, rfl, _⟩ := o.at_ (cell p (cMapT t ms)) (hL.mem_iff.mpr (List.mem_cons_self ..))
  refine ⟨.ref p, h1, p, rfl, .inr ⟨_, .inl hob0⟩, ha σ H o _ fun v key H1 pk g1 ⟨b, e1, e2⟩ => hb σ H1 g1.ok _ fun z H2 g2 r2 => ?_⟩
  obtain ⟨ob, hob, rfl, ht⟩ := g2.ok.at_ (cell p (cMapT t ms)) (hL.mem_iff.mpr (List.mem_cons_self ..))
  have hk : H2 b = some (.tup ((key.map (Sum.inr : Str → Key)).map kV)) := by rw [← key_map]; exact hid_sub _ _ (g2.up _ _ e2)
  refine ⟨mapTv ms, key.map Sum.inr, b, hob, e1, hk, by unfold mapTv; rw [List.length_map]; exact hl, fun v0 q0 => ?_, fun q0 => ?_⟩
  · show D.nx σ _
    rw [hD]
    refine k1 key pk ?_ σ _ g2.ok
    have := mapT_val (ms := ms) (k := key)
    rw [q0] at this
    simpa using this.symm
  · have nk : key ∉ ms.map (·.1) := by
      have := mapT_val (ms := ms) (k := key)
      rw [q0] at this
      simpa using this.symm
    show D.nx σ _
    rw [hD, mapT_put (x := x) nk]
    exact k2 key z pk nk σ _ ((g2.ok.perm hL).write (ψ := cMapT t (ms ++ [(key, z, x)])) (o := .dT (mapTv (ms ++ [(key, z, x)]))) rfl ⟨rfl, fun m mm => by
      rcases List.mem_append.mp mm with mm | mm
      · exact ht m mm
      · rw [List.mem_singleton.mp mm]; exact r2⟩).ok
/-- list(d.values()) -/
theorem ev_valsMT (hL : cell p (cMapT t ms) ∈ W.L) (hd : Ev W td tRf p) : Ev W (tListValsT td) (tLs K t) (ms.map fun m => m.2.2) := fun σ H o Q k =>
  hd σ H o _ fun w H1 g1 r1 => by
    obtain rfl : w = .ref p := r1
    obtain ⟨o1, ho1, rfl, ht⟩ := g1.ok.at_ _ hL
    refine ⟨p, mapTv ms, rfl, ho1, fun l nl => k _ _ (g1.trans (g1.ok.new nl)) ⟨l, _, rfl, (by rw [hid_of (g1.ok.off nl)]; exact upd_same), All2.mono (fun _ _ => t.mono (g1.ok.new nl).up) ?_⟩⟩
    have e : (mapTv ms).map (·.2) = (ms.map fun m => m.2).map (·.1) := by unfold mapTv; rw [List.map_map, List.map_map]; rfl
    have e2 : (ms.map fun m => m.2.2) = (ms.map fun m => m.2).map (·.2) := by rw [List.map_map]; rfl
    rw [e, e2]
    exact all2_tags fun q mq => by
      obtain ⟨m, mm, rfl⟩ := List.mem_map.mp mq
      exact ht m mm
end
end Cs
set_option maxHeartbeats 4000000
namespace Cs
open PySem PySem.Spec PyProof.Rows L2
/-! ### sorted by a def that tells an attribute -/
theorem key_run {X : Cx} {pins : List (Addr × Obj)} {σ : L2.St} {H : Hp} {s : Shared} {k : Nat} {nm qual p0 fld z : Str} {st : Stmt} {f a C dx : Addr} {fd : FuncData} {N : List Str} {fs : List (Str × V)} {q1 q2 q3 : Pos} (F : Fun X.K nm qual st f fd) (S : FnScope N [p0] (defScope st)) (hb : Binds X.K fd [p0] [])
    (body : defBody st = [.Return (some (.Attribute (.Name p0 q1) fld q2)) q3]) (hN : N[0]? = some p0) (hd : (p0 == ("__debug__" : Str)) = false) (hl : (defScope st).names.lookup p0 = some .local) (hv : Vis (defScope st) p0) (hab : ∀ env, attributeBase (.Name p0 q1) fld env (eval (.Name p0 q1) env) = eval (.Name p0 q1) env)
    (I : Inv X pins σ H s) (hr : Room k X.A) (e : H a = some (.ins C dx fs)) (c : Cls X.K C) (n : NoAttr X.K C fld) (l : fs.lookup fld = some (V.str z)) :
    wpAny (model X.prog X.w) X.A.in1.in1 (call (.ref f) [.ref a]) (PySem.W.KeyPure (.str z) s) (fun _ _ => False) s := by
  obtain ⟨oc, od, kV, doc, pm, an, cdv, ct, osl, rfl, lk, hcd⟩ := F.ex
  have e0 : Env0 X.prog X.w X.K X.mg X.base X.A.in1.in1 X.stack s H := I.env0.in1.in1
  have lim : s.heap.NoLimit := e0.mod.nolimit.keeps fun b o e => (e0.bs b o e).1
  have hkind : ∀ y ∈ [p0].zip [Value.ref a], (defScope st).names.lookup y.1 = some .local ∨ ((defScope st).names.lookup y.1 = some .cell ∧ ((cellsFrom (s.heap.objs.size + 1) (defScope st).names []).lookup y.1).isSome = true) := fun y hy => by
    have hy : y ∈ [(p0, Value.ref a)] := hy
    rw [List.mem_singleton.mp hy]
    exact .inl hl
  refine wpAny_call (codeAny_mono (R := fun r s' => match r with | .ok (.ret u) => PySem.W.KeyPure (.str z) s u s' | _ => False) ?_ fun r s' hq => ?_)
  · refine codeAny_call_function hr.depth (I.kIn _ _ lk) rfl S.co S.gen rfl (PySem.W.codeRec_of I.kIn hcd) (hb s [.ref a] I.kIn rfl _ _ _ _ ?_)
    refine wpAny_newFunctionEnv_cells S.kind hkind fun env he s1 x => ?_
    subst he
    refine ⟨lim.keeps x.toInCall.keep, codeAny_func ?_⟩
    have J := inv_start (CX := CX0) (E := E0) S (show X.A.in1.in1.handled = none from hr.hd) e0 (vs := [V.ref a]) rfl (.cons rfl .nil) x
    obtain ⟨h1, tk, rfl, kp⟩ := x.done
    show wpAny _ _ (execs (defBody st) _) _ _ _
    rw [body]
    refine wpAny_execs_cons (wpAny_Return_some (attr_of rfl ?_))
    obtain ⟨m, hn, hlk⟩ := J.loc
    obtain ⟨u, ru, lo⟩ := hlk 0 p0 (V.ref a) hN (by rfl) hv
    obtain rfl : u = Value.ref a := ru
    have fin : wpAny (model X.prog X.w) (X.A.in1.in1.deeper (envOfC qual (defScope st) s.heap.objs.size f cdv)) (getAttr (.ref a) fld true) (fun v s' => PySem.W.KeyPure (.str z) s v s') (fun _ _ => False) { s with heap := h1, toks := tk } := by
      obtain ⟨mA, O, r, _, _, _⟩ := ins_get J.hok e
      obtain ⟨u, hu, ru⟩ := RelO.some_of (v := V.str z) (o := mA fld) (by rw [← l]; exact r fld)
      obtain ⟨t, rfl⟩ := ru
      exact get_map J.kIn O (c.get fld) c.hd n hu (handed_of (show RelV (V.str z) _ from ⟨t, rfl⟩)) ⟨h1, _, rfl, kp, .str z t⟩
    rcases lo with ⟨hk, hm⟩ | ⟨hk, c1, hc, hcell⟩
    · refine wpAny_Name (wpAny_loadName_local J.ok.kind hk hn hm ?_) hd
      exact wpAny_mono fin (fun v s2 h => h) (fun _ _ h => h.elim)
    · exfalso
      have : (envOfC qual (defScope st) s.heap.objs.size f cdv).kindOf p0 = some .local := hl
      rcases hk with hk | hk
      · exact nomatch this.symm.trans hk
      · exact nomatch this.symm.trans hk
  · cases r with
    | error e => exact hq.elim
    | ok fl => cases fl with
      | ret u => exact hq
      | next => exact hq.elim
      | brk => exact hq.elim
      | cont => exact hq.elim
abbrev leN (y z : Str) : Bool := PySem.W.dataLe false PyData.str y z
/-- sorted(xs, key=g), g tells the attribute fld of its argument -/
def rSortA (K : PySem.W.Frag) (f : Addr) (fld : Str) : List V → List V → Hp → VK → Prop := fun vs zs H Q => ∃ (a : Addr) (bs : List (V × Str)), vs = [V.ref a] ∧ zs = [V.ref f] ∧ SqL K H a (bs.map (·.1)) ∧ bs.length < 1000 ∧
  (∀ b ∈ bs, ∃ q C dx fs, b.1 = V.ref q ∧ H q = some (.ins C dx fs) ∧ Cls K C ∧ NoAttr K C fld ∧ fs.lookup fld = some (V.str b.2)) ∧
  ∀ p, H p = none → Q (.ref p) (upd H p (.lst ((bs.mergeSort fun x y => leN x.2 y.2).map (·.1))))
theorem each_of : ∀ {bs : List (V × Str)} {its : List Value}, Vals (bs.map (·.1)) its → PySem.W.EachIs (fun v (b : V × Str) => RelV b.1 v) its bs
  | [], [], _ => .nil
  | [], _ :: _, h => by cases h
  | _ :: _, [], h => by cases h
  | b :: bs, v :: its, h => by
    cases h with
    | cons h1 h2 => exact .cons h1 (each_of h2)
theorem of_each : ∀ {bs : List (V × Str)} {its : List Value}, PySem.W.EachIs (fun v (b : V × Str) => RelV b.1 v) its bs → Vals (bs.map (·.1)) its
  | [], [], _ => .nil
  | [], _ :: _, h => by cases h
  | _ :: _, [], h => by cases h
  | b :: bs, v :: its, h => by
    cases h with
    | cons h1 h2 => exact .cons h1 (of_each h2)
theorem cr_sortA {X : Cx} {k : Nat} {nm qual p0 fld : Str} {st : Stmt} {f : Addr} {fd : FuncData} {N : List Str} {q1 q2 q3 : Pos} (F : Fun X.K nm qual st f fd) (S : FnScope N [p0] (defScope st)) (hb : Binds X.K fd [p0] [])
    (body : defBody st = [.Return (some (.Attribute (.Name p0 q1) fld q2)) q3]) (hN : N[0]? = some p0) (hd : (p0 == ("__debug__" : Str)) = false) (hl : (defScope st).names.lookup p0 = some .local) (hr : Room k X.A) : CallRK X (.builtin "sorted") [Str.ofString "key"] (rSortA X.K f fld) := by
  rintro pins s σ H vs zs us ws Q I r rz ⟨a, bs, rfl, rfl, hs, hlen, hbs, q⟩
  obtain ⟨its, rv, hL, hz⟩ := I.list hs
  rw [Vals.ref1 r]
  obtain rfl : ws = [.ref f] := Vals.ref1 rz
  have hz : bs.length ≤ sizeLine := by rw [sizeLine_eq]; omega
  refine PySem.W.sorted_key_data (b := false) (fun b : V × Str => PyData.str b.2) hL.isList (each_of rv) (PySem.W.AllAlike.of fun _ _ => by simp [PySem.W.alike]) (PySem.W.Sortable.others fun _ => ⟨by simp, by simp⟩) hz (fun b _ => ?_) (ksk_s1 _ _) (fun _ => ksk_l1 _ _) (fun _ => ksk_t1 _ _)
    (fun v b hR hm h tk kp => ?_) (fun out c h' tk kp fresh hD hlo he => ?_)
  · have hd : (PyData.str b.2).depth = 0 := by simp [PyData.depth]
    have := hr.un
    omega
  · obtain ⟨q, C, dx, fs, e1, e2, hc, hn, hl2⟩ := hbs b hm
    rw [e1] at hR
    obtain rfl : v = Value.ref q := hR
    exact key_run F S hb body hN hd hl (.inl hl) (fun _ => rfl) (I.kept (t' := tk) kp) hr e2 hc hn hl2
  · have hl2 : ((bs.mergeSort fun x y => leN x.2 y.2).map (·.1)).length ≤ sizeLine := by rw [List.length_map, List.length_mergeSort]; exact hz
    exact ⟨.ref _, upd H (s.heap.objs.size + 1) (.lst _), I.laid (t' := tk) (fun b o e => kp b o e) (Nat.le_succ _) ⟨hl2, out, c, of_each he, hD⟩, rfl, q _ (I.hok.fresh (Nat.le_succ _))⟩
theorem all2_zip {α : Type} {r : V → α → Prop} : ∀ {vs : List V} {xs : List α}, All2 r vs xs → (vs.zip xs).map (·.1) = vs ∧ (vs.zip xs).map (·.2) = xs ∧ ∀ p ∈ vs.zip xs, r p.1 p.2
  | [], [], _ => ⟨rfl, rfl, fun p m => nomatch m⟩
  | [], _ :: _, h => h.elim
  | _ :: _, [], h => h.elim
  | v :: vs, x :: xs, h => by
    obtain ⟨h1, h2, h3⟩ := all2_zip h.2
    refine ⟨by rw [List.zip_cons_cons, List.map_cons, h1], by rw [List.zip_cons_cons, List.map_cons, h2], fun p m => ?_⟩
    rw [List.zip_cons_cons] at m
    rcases List.mem_cons.mp m with rfl | m
    · exact h.1
    · exact h3 p m
section
variable {α : Type} {W : Wd} {K : PySem.W.Frag} {ta tf : TE} {xs : List α} {n : α → Str} {C f : Addr} {flds : α → List (Str × SF)} {fld : Str}
theorem ev_sortA (m : Nat) (h : Ev W ta (tLs K (tOb C flds)) xs) (hf : Ev W tf tRf f) (cl : Cls K C) (na : NoAttr K C fld) (e : ∀ x, (flds x)[m]? = some (fld, tSt.is (n x))) (hl : xs.length < 1000) :
    Ev W (tCKw (rSortA K f fld) (tCons ta tNil) (tCons tf tNil)) (tLs K (tOb C flds)) (xs.mergeSort fun x y => leN (n x) (n y)) := fun σ H o Q q => h σ H o _ fun v H1 g1 ⟨p, vs, ev, s, al⟩ => hf σ H1 g1.ok _ fun w H2 g2 r2 => by
  obtain rfl : w = V.ref f := r2
  subst ev
  obtain ⟨z1, z2, z3⟩ := all2_zip (All2.mono (fun _ _ => (tOb C flds).mono g2.up) al)
  have hmap : ((vs.zip xs).map fun p => (p.1, n p.2)).map (·.1) = vs := by rw [List.map_map]; exact z1
  have hv : (((vs.zip xs).map fun p => (p.1, n p.2)).mergeSort fun x y => leN x.2 y.2) = ((vs.zip xs).mergeSort fun x y => leN (n x.2) (n y.2)).map fun p => (p.1, n p.2) := (List.map_mergeSort (f := fun p : V × α => (p.1, n p.2)) (r := fun x y => leN (n x.2) (n y.2)) (s := fun x y : V × Str => leN x.2 y.2) (l := vs.zip xs) (fun _ _ _ _ => rfl)).symm
  have hx : xs.mergeSort (fun x y => leN (n x) (n y)) = ((vs.zip xs).mergeSort fun x y => leN (n x.2) (n y.2)).map (·.2) := by
    rw [List.map_mergeSort (f := fun p : V × α => p.2) (r := fun x y => leN (n x.2) (n y.2)) (s := fun x y => leN (n x) (n y)) (l := vs.zip xs) (fun _ _ _ _ => rfl), z2]
  refine ⟨p, (vs.zip xs).map fun p => (p.1, n p.2), rfl, rfl, ?_, ?_, fun b mb => ?_, fun l nl => q _ _ ((g1.trans g2).trans (g2.ok.new nl)) ⟨l, _, rfl, by rw [hid_of (g2.ok.off nl)]; exact upd_same, ?_⟩⟩
  · rw [hmap]
    exact SqL.of (hid_sub _ _ (g2.up _ _ s))
  · rw [List.length_map, List.length_zip]
    omega
  · obtain ⟨q, mq, rfl⟩ := List.mem_map.mp mb
    obtain ⟨a, dx, fs, e1, e2, k⟩ := z3 q mq
    obtain ⟨u, h1, h2⟩ := k fld _ (List.mem_of_getElem? (e q.2))
    exact ⟨a, C, dx, fs, e1, hid_sub _ _ e2, cl, na, by rw [h1, show u = V.str (n q.2) from h2]⟩
  · rw [hv, hx, List.map_map]
    refine all2_tags (rel := (tOb C flds).r _) (vxs := (vs.zip xs).mergeSort fun x y => leN (n x.2) (n y.2)) fun q mq => ?_
    exact (tOb C flds).mono (g2.ok.new nl).up (z3 q (List.mem_mergeSort.mp mq))
end
end Cs
set_option maxHeartbeats 4000000
namespace Cs
open PySem PySem.Spec PyProof.Rows L2
/-! ### rows of causes -/
def beforeR (ms : List Bd) (row : List Str) : List Bd := ms.filter fun b => decide (b.name ∈ row)
/-- a bond that may follow a row -/
def folB (ms : List Bd) (ow : List Str) (row : List Str) (b : Bd) : Bool := !decide (b.name ∈ row) && (decide (b.name ∈ ow) || boundB b (beforeR ms row))
def folP (ms : List Bd) (ow row : List Str) (j : Nat) : List (List Str) := ((ms.take j).filter (folB ms ow row)).map fun b => row ++ [b.name]
def fol (ms : List Bd) (ow row : List Str) : List (List Str) := (ms.filter (folB ms ow row)).map fun b => row ++ [b.name]
def cand (ms : List Bd) (ow : List Str) (rows : List (List Str)) : List (List Str) := rows.flatMap (fol ms ow)
theorem folP_zero (ms : List Bd) (ow row : List Str) : folP ms ow row 0 = [] := rfl
theorem folP_succ {ms : List Bd} {ow row : List Str} {j : Nat} {b : Bd} (h : ms[j]? = some b) : folP ms ow row (j + 1) = folP ms ow row j ++ (if folB ms ow row b = true then [row ++ [b.name]] else []) := by
  unfold folP
  rw [take_snoc h, List.filter_append, List.map_append]
  congr 1
  by_cases q : folB ms ow row b = true
  · rw [if_pos q, List.filter_cons_of_pos q]; rfl
  · rw [if_neg q, List.filter_cons_of_neg q]; rfl
theorem folP_all (ms : List Bd) (ow row : List Str) : folP ms ow row ms.length = fol ms ow row := by unfold folP fol; rw [List.take_length]
theorem fol_len (ms : List Bd) (ow row : List Str) : (fol ms ow row).length ≤ ms.length := by
  unfold fol
  rw [List.length_map]
  exact List.length_filter_le ..
theorem folP_len (ms : List Bd) (ow row : List Str) (j : Nat) : (folP ms ow row j).length ≤ ms.length := by
  unfold folP
  rw [List.length_map]
  refine Nat.le_trans (List.length_filter_le ..) ?_
  rw [List.length_take]
  omega
theorem cand_len (ms : List Bd) (ow : List Str) : ∀ rows : List (List Str), (cand ms ow rows).length ≤ rows.length * ms.length
  | [] => Nat.zero_le _
  | r :: rows => by
    have ih := cand_len ms ow rows
    unfold cand at ih ⊢
    rw [List.flatMap_cons, List.length_append, List.length_cons, Nat.succ_mul]
    have := fol_len ms ow r
    omega
theorem cand_succ {ms : List Bd} {ow : List Str} {rows : List (List Str)} {k : Nat} {r : List Str} (h : rows[k]? = some r) : cand ms ow (rows.take (k + 1)) = cand ms ow (rows.take k) ++ fol ms ow r := by
  unfold cand
  rw [take_snoc h, List.flatMap_append]
  simp
/-- the first of each set is kept -/
inductive Dd : List (List Str) → List (List Str) → Prop
  | nil : Dd [] []
  | add {cs rs : List (List Str)} {c : List Str} : Dd cs rs → Dd (cs ++ [c]) (rs ++ [c])
  | skip {cs rs : List (List Str)} {c r : List Str} : Dd cs rs → r ∈ rs → r.Perm c → Dd (cs ++ [c]) rs
theorem Dd.sub {cs rs : List (List Str)} (h : Dd cs rs) : rs.Sublist cs := by
  induction h with
  | nil => exact .refl _
  | add _ ih => exact ih.append (.refl _)
  | skip _ _ _ ih => exact ih.trans (List.sublist_append_left ..)
theorem Dd.ex {cs rs : List (List Str)} (h : Dd cs rs) : ∀ c ∈ cs, ∃ r ∈ rs, r.Perm c := by
  induction h with
  | nil => intro c m; cases m
  | @add cs rs c h ih =>
    intro x m
    rcases List.mem_append.mp m with m | m
    · obtain ⟨r, mr, p⟩ := ih x m
      exact ⟨r, List.mem_append_left _ mr, p⟩
    · rw [List.mem_singleton.mp m]
      exact ⟨c, List.mem_append_right _ (List.mem_singleton.mpr rfl), .refl _⟩
  | @skip cs rs c r h mr p ih =>
    intro x m
    rcases List.mem_append.mp m with m | m
    · exact ih x m
    · rw [List.mem_singleton.mp m]
      exact ⟨r, mr, p⟩
/-- the rows of one length, as they are searched -/
inductive Chain (ms : List Bd) (ow : List Str) (nm : Str) : Nat → List (List Str) → Prop
  | zero : Chain ms ow nm 0 [[]]
  | succ {n : Nat} {R R' : List (List Str)} : Chain ms ow nm n R → (∀ r ∈ R, r.getLast? ≠ some nm) → Dd (cand ms ow R) R' → Chain ms ow nm (n + 1) R'
def endsR (nm : Str) (rows : List (List Str)) : List (List Str) := rows.filter fun r => decide (r.getLast? = some nm)
structure RowOk (ms : List Bd) (n : Nat) (r : List Str) : Prop where
  l : r.length = n
  nd : r.Nodup
  sub : ∀ z ∈ r, z ∈ ms.map Bd.name
theorem mem_cand {ms : List Bd} {ow : List Str} {R : List (List Str)} {c : List Str} (h : c ∈ cand ms ow R) : ∃ r ∈ R, ∃ b ∈ ms, folB ms ow r b = true ∧ c = r ++ [b.name] := by
  obtain ⟨r, mr, m⟩ := List.mem_flatMap.mp h
  obtain ⟨b, mb, rfl⟩ := List.mem_map.mp m
  obtain ⟨m1, m2⟩ := List.mem_filter.mp mb
  exact ⟨r, mr, b, m1, m2, rfl⟩
theorem RowOk.snoc {ms : List Bd} {ow : List Str} {n : Nat} {r : List Str} {b : Bd} (h : RowOk ms n r) (mb : b ∈ ms) (f : folB ms ow r b = true) : RowOk ms (n + 1) (r ++ [b.name]) := by
  unfold folB at f
  simp only [Bool.and_eq_true, Bool.not_eq_true', decide_eq_false_iff_not] at f
  refine ⟨by rw [List.length_append, h.l]; rfl, ?_, fun z m => ?_⟩
  · refine List.nodup_append.mpr ⟨h.nd, by simp, fun x mx y my e => ?_⟩
    rw [List.mem_singleton.mp my] at e
    exact f.1 (e ▸ mx)
  · rcases List.mem_append.mp m with m | m
    · exact h.sub z m
    · rw [List.mem_singleton.mp m]
      exact List.mem_map_of_mem mb
theorem Chain.ok {ms : List Bd} {ow : List Str} {nm : Str} {n : Nat} {R : List (List Str)} (h : Chain ms ow nm n R) : ∀ r ∈ R, RowOk ms n r := by
  induction h with
  | zero =>
    intro r m
    rw [List.mem_singleton.mp m]
    exact ⟨rfl, List.nodup_nil, fun z m => nomatch m⟩
  | succ h he d ih =>
    intro c m
    obtain ⟨r, mr, b, mb, f, rfl⟩ := mem_cand (d.sub.subset m)
    exact (ih r mr).snoc mb f
theorem Chain.out {ms : List Bd} {ow : List Str} {nm : Str} {n : Nat} {R : List (List Str)} (h : Chain ms ow nm n R) : (∀ r ∈ R, r.getLast? ≠ some nm) → ∀ r ∈ R, nm ∉ r := by
  induction h with
  | zero =>
    intro _ r m
    rw [List.mem_singleton.mp m]
    exact fun z => nomatch z
  | succ h he d ih =>
    intro hl c m
    obtain ⟨r, mr, b, mb, f, rfl⟩ := mem_cand (d.sub.subset m)
    intro z
    rcases List.mem_append.mp z with z | z
    · exact ih he r mr z
    · have := hl _ m
      rw [List.getLast?_append] at this
      simp at this
      exact this (List.mem_singleton.mp z).symm
theorem Chain.len {ms : List Bd} {ow : List Str} {nm : Str} {n : Nat} {R : List (List Str)} (h : Chain ms ow nm n R) : R.length ≤ ms.length ^ n := by
  induction h with
  | zero => exact Nat.le_refl _
  | succ h he d ih =>
    refine Nat.le_trans d.sub.length_le (Nat.le_trans (cand_len ..) ?_)
    rw [Nat.pow_succ]
    exact Nat.mul_le_mul_right _ ih
theorem nodup_len : ∀ {xs L : List Str}, xs.Nodup → (∀ x ∈ xs, x ∈ L) → xs.length ≤ L.length
  | [], _, _, _ => Nat.zero_le _
  | x :: xs, L, nd, h => by
    rw [List.nodup_cons] at nd
    have mx := h x (List.mem_cons_self ..)
    have ih := nodup_len (L := L.erase x) nd.2 fun y m => (List.mem_erase_of_ne (fun e : y = x => nd.1 (e ▸ m))).mpr (h y (List.mem_cons_of_mem _ m))
    rw [List.length_erase_of_mem mx] at ih
    have : 0 < L.length := List.length_pos_of_mem mx
    rw [List.length_cons]
    omega
/-- the mates of a bond in default -/
def matesOf (bs : List Bd) (iss : Str) (ks : List Str) : List Bd := bs.filter fun b => decide (b.issuer = iss) && decide (b.name ∈ ks)
theorem nameB_inj {bs : List Bd} (nd : (bs.map Bd.name).Nodup) : ∀ {a b : Bd}, a ∈ bs → b ∈ bs → a.name = b.name → a = b := by
  induction bs with
  | nil => intro a b m; cases m
  | cons x bs ih =>
    rw [List.map_cons, List.nodup_cons] at nd
    intro a b ma mb e
    rcases List.mem_cons.mp ma with h1 | h1
    · rcases List.mem_cons.mp mb with h2 | h2
      · rw [h1, h2]
      · rw [h1] at e
        exact absurd (e ▸ List.mem_map_of_mem (f := Bd.name) h2) nd.1
    · rcases List.mem_cons.mp mb with h2 | h2
      · rw [h2] at e
        exact absurd (e ▸ List.mem_map_of_mem (f := Bd.name) h1) nd.1
      · exact ih nd.2 h1 h2 e
/-- a row without the bond can go on -/
theorem row_on {bs ms : List Bd} {ow ex ks : List Str} {nm iss : Str} {row : List Str} (ok : ∀ b ∈ bs, BdOk b) (nd : (bs.map Bd.name).Nodup) (L : Least bs ow ex ks) (hm : ms.Perm (matesOf bs iss ks)) (hn : ∃ b ∈ bs, b.name = nm ∧ b.issuer = iss) (hk : nm ∈ ks) (hw : ∀ z ∈ ow, z ∈ bs.map Bd.name) (hr : ∀ z ∈ row, z ∈ ms.map Bd.name) (hx : nm ∉ row) :
    ∃ b ∈ ms, folB ms ow row b = true := by
  have mms : ∀ b, b ∈ ms ↔ b ∈ bs ∧ b.issuer = iss ∧ b.name ∈ ks := fun b => by
    rw [hm.mem_iff]
    unfold matesOf
    rw [List.mem_filter]
    simp only [Bool.and_eq_true, decide_eq_true_eq]
  by_cases q : ∃ b ∈ ms, folB ms ow row b = true
  · exact q
  have no : ∀ b ∈ ms, b.name ∉ row → b.name ∉ ow ∧ boundB b (beforeR ms row) = false := fun b mb h => by
    have : folB ms ow row b = false := by
      cases c : folB ms ow row b with
      | false => rfl
      | true => exact absurd ⟨b, mb, c⟩ q
    unfold folB at this
    simpa [h] using this
  exfalso
  let T := row ++ ks.filter fun z => !decide (z ∈ ms.map Bd.name)
  have mT : ∀ z, z ∈ T ↔ z ∈ row ∨ (z ∈ ks ∧ z ∉ ms.map Bd.name) := fun z => by
    show z ∈ row ++ _ ↔ _
    rw [List.mem_append, List.mem_filter]
    simp only [Bool.not_eq_true', decide_eq_false_iff_not]
  have Tk : ∀ z, z ∈ T → z ∈ ks := fun z m => by
    rcases (mT z).mp m with m | m
    · obtain ⟨b, mb, rfl⟩ := List.mem_map.mp (hr z m)
      exact ((mms b).mp mb).2.2
    · exact m.1
  have hT := L.least T (fun z mz => ?_) (fun b mb h1 h2 => ?_) nm hk
  · obtain ⟨b, mb, e1, e2⟩ := hn
    rcases (mT nm).mp hT with m | m
    · exact hx m
    · exact m.2 (List.mem_map.mpr ⟨b, (mms b).mpr ⟨mb, e2, e1 ▸ hk⟩, e1⟩)
  · by_cases z1 : z ∈ ms.map Bd.name
    · obtain ⟨b, mb, rfl⟩ := List.mem_map.mp z1
      by_cases z2 : b.name ∈ row
      · exact (mT _).mpr (.inl z2)
      · exact absurd mz (no b mb z2).1
    · exact (mT _).mpr (.inr ⟨L.own z mz, z1⟩)
  · cases c : boundB b (inN T bs) with
    | false => rfl
    | true =>
      exfalso
      have bk : b.name ∈ ks := by
        by_cases z : b.name ∈ ks
        · exact z
        · have := L.cl b mb z h2
          rw [boundB_mono ok Tk c] at this
          cases this
      have bm : b.name ∈ ms.map Bd.name := by
        by_cases z : b.name ∈ ms.map Bd.name
        · exact z
        · exact absurd ((mT _).mpr (.inr ⟨bk, z⟩)) h1
      obtain ⟨b', mb', e⟩ := List.mem_map.mp bm
      have eb : b' = b := nameB_inj nd ((mms b').mp mb').1 mb e
      subst eb
      have bi := ((mms b').mp mb').2.1
      have nr : b'.name ∉ row := fun z => h1 ((mT _).mpr (.inl z))
      have := (no b' mb' nr).2
      have e2 : boundB b' (beforeR ms row) = boundB b' (inN T bs) := by
        unfold boundB
        cases b'.cross with
        | none => rfl
        | some c =>
          have : load b' (beforeR ms row) = load b' (inN T bs) := by
            unfold load beforeR inN
            refine rsum_perm (List.Perm.map _ ?_)
            have p1 := ((hm.filter fun o => decide (o.name ∈ row)).filter fun o => decide (o.issuer = b'.issuer))
            refine p1.trans ?_
            unfold matesOf
            rw [List.filter_filter, List.filter_filter, List.filter_filter]
            refine List.Perm.of_eq (List.filter_congr fun o mo => ?_)
            rw [Bool.eq_iff_iff]
            simp only [Bool.and_eq_true, decide_eq_true_eq, bi, mT]
            constructor
            · rintro ⟨⟨h3, h4⟩, h5, h6⟩
              first | exact ⟨h3, .inl h4⟩ | exact ⟨h5, .inl h4⟩ | exact ⟨h5, .inl h3⟩
            · rintro ⟨h3, h4⟩
              have h5 : o.name ∈ row := by
                rcases h4 with h4 | ⟨h4, h5⟩
                · exact h4
                · exact absurd (List.mem_map.mpr ⟨o, (mms o).mpr ⟨mo, h3, h4⟩, rfl⟩) h5
              have h6 : o.name ∈ ks := Tk _ ((mT _).mpr (.inl h5))
              first | exact ⟨⟨h3, h5⟩, h3, h6⟩ | exact ⟨⟨h3, h6⟩, h5⟩ | exact ⟨h3, h5, h3, h6⟩ | exact ⟨⟨h5, h3⟩, h3, h6⟩
          rw [this]
      rw [e2, c] at this
      cases this
end Cs
set_option maxHeartbeats 4000000
namespace Cs
open PySem PySem.Spec PyProof.Rows L2
/-! ### all rows, and the first of each set -/
theorem snoc_inj {α : Type} {xs ys : List α} {x y : α} (h : xs ++ [x] = ys ++ [y]) : xs = ys ∧ x = y := by
  obtain ⟨h1, h2⟩ := List.append_inj' h rfl
  exact ⟨h1, by simpa using h2⟩
theorem Dd.inv {xs rs : List (List Str)} {d : List Str} (h : Dd (xs ++ [d]) rs) : (∃ rs', rs = rs' ++ [d] ∧ Dd xs rs') ∨ (Dd xs rs ∧ ∃ r ∈ rs, r.Perm d) := by
  generalize e : xs ++ [d] = ys at h
  cases h with
  | nil => simp at e
  | add h =>
    obtain ⟨e1, e2⟩ := snoc_inj e
    subst e1 e2
    exact .inl ⟨_, rfl, h⟩
  | skip h m p =>
    obtain ⟨e1, e2⟩ := snoc_inj e
    subst e1 e2
    exact .inr ⟨h, _, m, p⟩
theorem snoc_ind {α : Type} {P : List α → Prop} (h0 : P []) (h1 : ∀ xs x, P xs → P (xs ++ [x])) : ∀ xs, P xs := fun xs => by
  have key : ∀ ys : List α, P ys.reverse := by
    intro ys
    induction ys with
    | nil => exact h0
    | cons y ys ih => rw [List.reverse_cons]; exact h1 _ _ ih
  have := key xs.reverse
  rwa [List.reverse_reverse] at this
theorem Dd.split {as : List (List Str)} : ∀ (ds : List (List Str)) {R'' : List (List Str)}, Dd (as ++ ds) R'' → ∃ R, Dd as R ∧ ∀ bs, Dd bs R → Dd (bs ++ ds) R'' := by
  refine snoc_ind ?_ fun ds d ih => ?_
  · intro R h
    rw [List.append_nil] at h
    exact ⟨R, h, fun bs hb => by rw [List.append_nil]; exact hb⟩
  · intro R'' h
    rw [← List.append_assoc] at h
    rcases h.inv with ⟨rs', e, h3⟩ | ⟨h3, r, m, p⟩
    · obtain ⟨R, h1, h2⟩ := ih h3
      exact ⟨R, h1, fun bs hb => by rw [← List.append_assoc, e]; exact .add (h2 bs hb)⟩
    · obtain ⟨R, h1, h2⟩ := ih h3
      exact ⟨R, h1, fun bs hb => by rw [← List.append_assoc]; exact .skip (h2 bs hb) m p⟩
theorem Dd.skips {cs R : List (List Str)} (h : Dd cs R) : ∀ ds : List (List Str), (∀ d ∈ ds, ∃ r ∈ R, r.Perm d) → Dd (cs ++ ds) R := by
  refine snoc_ind ?_ fun ds d ih => ?_
  · intro _
    rw [List.append_nil]
    exact h
  · intro hd
    obtain ⟨r, m, p⟩ := hd d (List.mem_append_right _ (List.mem_singleton.mpr rfl))
    rw [← List.append_assoc]
    exact .skip (ih fun x mx => hd x (List.mem_append_left _ mx)) m p
theorem folB_perm {ms : List Bd} {ow r c : List Str} (h : r.Perm c) (b : Bd) : folB ms ow r b = folB ms ow c b := by
  have e : beforeR ms r = beforeR ms c := List.filter_congr fun o _ => by rw [Bool.eq_iff_iff, decide_eq_true_eq, decide_eq_true_eq]; exact h.mem_iff
  unfold folB
  rw [e]
  congr 2
  rw [Bool.eq_iff_iff, decide_eq_true_eq, decide_eq_true_eq]
  exact h.mem_iff
theorem Dd.cand {ms : List Bd} {ow : List Str} {W R : List (List Str)} (h : Dd W R) : ∀ {R' : List (List Str)}, Dd (cand ms ow R) R' → Dd (cand ms ow W) R' := by
  induction h with
  | nil => exact fun h => h
  | @add cs rs c h ih =>
    intro R' h'
    have e1 : Cs.cand ms ow (rs ++ [c]) = Cs.cand ms ow rs ++ fol ms ow c := by unfold Cs.cand; rw [List.flatMap_append]; simp
    have e2 : Cs.cand ms ow (cs ++ [c]) = Cs.cand ms ow cs ++ fol ms ow c := by unfold Cs.cand; rw [List.flatMap_append]; simp
    rw [e1] at h'
    rw [e2]
    obtain ⟨R, h1, h2⟩ := Dd.split _ h'
    exact h2 _ (ih h1)
  | @skip cs rs c r h mr p ih =>
    intro R' h'
    have e2 : Cs.cand ms ow (cs ++ [c]) = Cs.cand ms ow cs ++ fol ms ow c := by unfold Cs.cand; rw [List.flatMap_append]; simp
    rw [e2]
    refine (ih h').skips _ fun d md => ?_
    obtain ⟨b, mb, rfl⟩ := List.mem_map.mp md
    obtain ⟨m1, m2⟩ := List.mem_filter.mp mb
    obtain ⟨r', mr', p'⟩ := h'.ex (r ++ [b.name]) (List.mem_flatMap.mpr ⟨r, mr, List.mem_map.mpr ⟨b, List.mem_filter.mpr ⟨m1, by rw [folB_perm p]; exact m2⟩, rfl⟩⟩)
    exact ⟨r', mr', p'.trans (p.append_right _)⟩
/-- the first that has what is told of its set -/
theorem Dd.first {W R : List (List Str)} (h : Dd W R) {p : List Str → Bool} (hp : ∀ a b, a.Perm b → p a = p b) : R.find? p = W.find? p := by
  induction h with
  | nil => rfl
  | add h ih => rw [List.find?_append, List.find?_append, ih]
  | @skip cs rs c r h mr q ih =>
    rw [List.find?_append, ← ih]
    cases e : rs.find? p with
    | some x => rfl
    | none =>
      have := List.find?_eq_none.mp e r mr
      rw [hp _ _ q] at this
      rw [List.find?_cons_of_neg this]
      rfl
/-- the rows of one length, all of them, over the bonds other than nm -/
def folN (ms : List Bd) (ow : List Str) (nm : Str) (r : List Str) : List (List Str) := (ms.filter fun b => folB ms ow r b && !decide (b.name = nm)).map fun b => r ++ [b.name]
def WN (ms : List Bd) (ow : List Str) (nm : Str) : Nat → List (List Str)
  | 0 => [[]]
  | n + 1 => (WN ms ow nm n).flatMap (folN ms ow nm)
/-- nm may follow -/
def vN (ms : List Bd) (ow : List Str) (nm : Str) (r : List Str) : Bool := ms.any fun b => decide (b.name = nm) && folB ms ow r b
theorem vN_perm {ms : List Bd} {ow : List Str} {nm : Str} (a b : List Str) (h : a.Perm b) : vN ms ow nm a = vN ms ow nm b := by
  unfold vN
  congr 1
  funext x
  rw [folB_perm h]
theorem folN_fol {ms : List Bd} {ow : List Str} {nm : Str} {r : List Str} (h : vN ms ow nm r = false) : folN ms ow nm r = fol ms ow r := by
  unfold folN fol
  congr 1
  refine List.filter_congr fun b mb => ?_
  have := List.any_eq_false.mp h b mb
  cases q : folB ms ow r b with
  | false => rfl
  | true =>
    simp only [q, Bool.and_true, decide_eq_true_eq] at this
    simp [this]
theorem chain_W {ms : List Bd} {ow : List Str} {nm : Str} {n : Nat} {R : List (List Str)} (h : Chain ms ow nm n R) : (∀ r ∈ R, r.getLast? ≠ some nm) → Dd (WN ms ow nm n) R ∧ ∀ k, k < n → ∀ w ∈ WN ms ow nm k, vN ms ow nm w = false := by
  induction h with
  | zero => exact fun _ => ⟨Dd.add (cs := []) (rs := []) .nil, fun k hk => absurd hk (Nat.not_lt_zero _)⟩
  | @succ n R R' h he d ih =>
    intro hl
    obtain ⟨h1, h2⟩ := ih he
    have hout := (Chain.succ h he d).out hl
    have hv : ∀ r ∈ R, vN ms ow nm r = false := fun r mr => by
      cases q : vN ms ow nm r with
      | false => rfl
      | true =>
        obtain ⟨b, mb, hb⟩ := List.any_eq_true.mp q
        simp only [Bool.and_eq_true, decide_eq_true_eq] at hb
        obtain ⟨r', mr', p⟩ := d.ex (r ++ [b.name]) (List.mem_flatMap.mpr ⟨r, mr, List.mem_map.mpr ⟨b, List.mem_filter.mpr ⟨mb, hb.2⟩, rfl⟩⟩)
        exact absurd (p.mem_iff.mpr (List.mem_append_right _ (List.mem_singleton.mpr hb.1.symm))) (hout r' mr')
    have hw : ∀ w ∈ WN ms ow nm n, vN ms ow nm w = false := fun w mw => by
      obtain ⟨r, mr, p⟩ := h1.ex w mw
      rw [← vN_perm r w p]
      exact hv r mr
    have e : WN ms ow nm (n + 1) = Cs.cand ms ow (WN ms ow nm n) := by
      show (WN ms ow nm n).flatMap (folN ms ow nm) = (WN ms ow nm n).flatMap (fol ms ow)
      have key : ∀ l : List (List Str), (∀ w ∈ l, vN ms ow nm w = false) → l.flatMap (folN ms ow nm) = l.flatMap (fol ms ow) := by
        intro l
        induction l with
        | nil => intro _; rfl
        | cons x l ih =>
          intro hl
          rw [List.flatMap_cons, List.flatMap_cons, folN_fol (hl x (List.mem_cons_self ..)), ih fun w m => hl w (List.mem_cons_of_mem _ m)]
      exact key _ hw
    refine ⟨by rw [e]; exact Dd.cand h1 d, fun k hk => ?_⟩
    rcases Nat.lt_succ_iff_lt_or_eq.mp hk with hk | rfl
    · exact h2 k hk
    · exact hw
theorem find_congr {α : Type} {p q : α → Bool} : ∀ {l : List α}, (∀ x ∈ l, p x = q x) → l.find? p = l.find? q
  | [], _ => rfl
  | x :: l, h => by
    rw [List.find?_cons, List.find?_cons, h x (List.mem_cons_self ..), find_congr fun y m => h y (List.mem_cons_of_mem _ m)]
theorem some_congr {α β : Type} {f g : α → Option β} : ∀ {l : List α}, (∀ x ∈ l, f x = g x) → l.findSome? f = l.findSome? g
  | [], _ => rfl
  | x :: l, h => by
    rw [List.findSome?_cons, List.findSome?_cons, h x (List.mem_cons_self ..), some_congr fun y m => h y (List.mem_cons_of_mem _ m)]
theorem some_map {α β : Type} {p : α → Bool} {f : α → β} : ∀ l : List α, (l.findSome? fun x => if p x = true then some (f x) else none) = (l.find? p).map f
  | [] => rfl
  | x :: l => by
    rw [List.findSome?_cons, List.find?_cons]
    cases p x with
    | true => rfl
    | false => exact some_map l
theorem chain_end {ms : List Bd} {ow : List Str} {nm : Str} {n : Nat} {R : List (List Str)} {r : List Str} (h : Chain ms ow nm n R) (hn : 0 < n) (hr : (endsR nm R)[0]? = some r) : ∃ m, n = m + 1 ∧ (∀ k, k < m → ∀ w ∈ WN ms ow nm k, vN ms ow nm w = false) ∧ ((WN ms ow nm m).find? (vN ms ow nm)).map (fun w => w ++ [nm]) = some r := by
  cases h with
  | zero => exact absurd hn (Nat.lt_irrefl _)
  | @succ m R0 R' h he d =>
    obtain ⟨h1, h2⟩ := chain_W h he
    refine ⟨m, rfl, h2, ?_⟩
    have hout := h.out he
    have e1 : (endsR nm R)[0]? = R.find? fun r => decide (nm ∈ r) := by
      unfold endsR
      rw [← List.head?_eq_getElem?, List.head?_filter]
      refine find_congr fun c mc => ?_
      obtain ⟨r0, mr0, b, mb, f, rfl⟩ := mem_cand (d.sub.subset mc)
      rw [Bool.eq_iff_iff, decide_eq_true_eq, decide_eq_true_eq, List.getLast?_append]
      simp only [List.getLast?_singleton, Option.some_or, Option.some.injEq, List.mem_append, List.mem_singleton]
      exact ⟨fun e => .inr e.symm, fun e => (e.resolve_left (hout r0 mr0)).symm⟩
    have e2 : R.find? (fun r => decide (nm ∈ r)) = (Cs.cand ms ow R0).find? fun r => decide (nm ∈ r) := d.first fun a b p => by rw [Bool.eq_iff_iff, decide_eq_true_eq, decide_eq_true_eq]; exact p.mem_iff
    have e3 : (Cs.cand ms ow R0).find? (fun r => decide (nm ∈ r)) = R0.findSome? fun r => if vN ms ow nm r = true then some (r ++ [nm]) else none := by
      unfold Cs.cand
      rw [List.find?_flatMap]
      refine some_congr fun r0 mr0 => ?_
      have hx := hout r0 mr0
      by_cases q : vN ms ow nm r0 = true
      · rw [if_pos q]
        obtain ⟨b, mb, hb⟩ := List.any_eq_true.mp q
        simp only [Bool.and_eq_true, decide_eq_true_eq] at hb
        have mc : r0 ++ [nm] ∈ fol ms ow r0 := List.mem_map.mpr ⟨b, List.mem_filter.mpr ⟨mb, hb.2⟩, by rw [hb.1]⟩
        cases c : (fol ms ow r0).find? fun r => decide (nm ∈ r) with
        | none =>
          have := List.find?_eq_none.mp c _ mc
          simp at this
        | some y =>
          obtain ⟨b', mb', rfl⟩ := List.mem_map.mp (List.mem_of_find?_eq_some c)
          have := List.find?_some c
          simp only [decide_eq_true_eq, List.mem_append, List.mem_singleton] at this
          rw [← this.resolve_left hx]
      · rw [if_neg q]
        refine List.find?_eq_none.mpr fun c mc => ?_
        obtain ⟨b', mb', rfl⟩ := List.mem_map.mp mc
        obtain ⟨m1, m2⟩ := List.mem_filter.mp mb'
        simp only [decide_eq_true_eq, List.mem_append, List.mem_singleton]
        rintro (z | z)
        · exact hx z
        · exact q (List.any_eq_true.mpr ⟨b', m1, by simp [m2, z]⟩)
    rw [e1, e2, e3, some_map] at hr
    rw [← h1.first (p := vN ms ow nm) vN_perm]
    exact hr
end Cs
set_option maxHeartbeats 4000000
namespace Cs
open PySem PySem.Spec PyProof.Rows L2
/-! ### texts in their order -/
def leL (a b : Str) : Prop := a.cps.toList ≤ b.cps.toList
theorem leL_trans {a b c : Str} (h : leL a b) (g : leL b c) : leL a c := List.le_trans h g
theorem leL_anti {a b : Str} (h : leL a b) (g : leL b a) : a = b := by
  have e : a.cps.toList = b.cps.toList := List.le_antisymm h g
  cases a
  cases b
  congr 1
  exact Array.toList_inj.mp e
theorem leN_iff {a b : Str} : leN a b = true ↔ leL a b := by
  show PySem.W.dataLe false PyData.str a b = true ↔ _
  rw [show (PySem.W.dataLe false PyData.str : Str → Str → Bool) = fun a b => decide (a.cps.toList ≤ b.cps.toList) from PySem.W.dataLe_str fun z : Str => z]
  exact decide_eq_true_iff
theorem pair_uniq : ∀ {xs ys : List Str}, xs.Perm ys → xs.Pairwise leL → ys.Pairwise leL → xs = ys
  | [], ys, p, _, _ => (List.nil_perm.mp p).symm
  | x :: xs, [], p, _, _ => absurd (List.perm_nil.mp p) (by simp)
  | x :: xs, y :: ys, p, hx, hy => by
    rw [List.pairwise_cons] at hx hy
    have e : x = y := by
      have m1 := p.mem_iff.mp (List.mem_cons_self .. : x ∈ x :: xs)
      have m2 := p.mem_iff.mpr (List.mem_cons_self .. : y ∈ y :: ys)
      rcases List.mem_cons.mp m1 with h | h
      · exact h
      · rcases List.mem_cons.mp m2 with g | g
        · exact g.symm
        · exact leL_anti (hx.1 y g) (hy.1 x h)
    subst e
    rw [pair_uniq (List.perm_cons x |>.mp p) hx.2 hy.2]
theorem ltCps_iff {a b : List Nat} : ltCps a b = true ↔ a < b := by
  rw [ltCps_eq]
  exact decide_eq_true_iff
theorem rising_pair : ∀ {p : Str} {r : List Str}, risingS p r = true → (p :: r).Pairwise leL
  | p, [], _ => List.pairwise_singleton _ _
  | p, x :: r, h => by
    have h : (!ltCps x.cps.toList p.cps.toList && risingS x r) = true := h
    rw [Bool.and_eq_true] at h
    have ih := rising_pair h.2
    have hp : leL p x := by
      show ¬ _ < _
      intro z
      have := h.1
      rw [ltCps_iff.mpr z] at this
      cases this
    rw [List.pairwise_cons]
    refine ⟨fun y m => ?_, ih⟩
    rcases List.mem_cons.mp m with rfl | m
    · exact hp
    · exact leL_trans hp ((List.pairwise_cons.mp ih).1 y m)
theorem sortedS_pair : ∀ {xs : List Str}, sortedS xs = true → xs.Pairwise leL
  | [], _ => List.Pairwise.nil
  | _ :: _, h => rising_pair h
theorem mates_pair (bs : List Bd) : ((bs.mergeSort fun a b => leN a.name b.name).map Bd.name).Pairwise leL := by
  rw [List.pairwise_map]
  have h := List.pairwise_mergeSort (le := fun a b : Bd => leN a.name b.name) (fun a b c h1 h2 => leN_iff.mpr (leL_trans (leN_iff.mp h1) (leN_iff.mp h2))) (fun a b => by
    rcases List.le_total a.name.cps.toList b.name.cps.toList with h | h
    · rw [show leN a.name b.name = true from leN_iff.mpr h]; rfl
    · rw [show leN b.name a.name = true from leN_iff.mpr h]; simp) bs
  exact h.imp fun h => leN_iff.mp h
/-- the law's other names that are in default are the program's other mates, in the same order -/
theorem others_mates {bs : List Bd} {ks os : List Str} {iss nm : Str} (po : os.Perm ((bs.filter fun b => decide (b.issuer = iss) && !decide (b.name = nm)).map Bd.name)) (so : os.Pairwise leL) :
    os.filter (fun z => decide (z ∈ ks)) = (((matesOf bs iss ks).mergeSort fun a b => leN a.name b.name).filter fun b => !decide (b.name = nm)).map Bd.name := by
  refine pair_uniq ?_ (so.filter _) ?_
  · refine (po.filter _).trans ?_
    rw [List.filter_map, List.filter_filter]
    refine List.Perm.map _ ?_
    refine List.Perm.trans ?_ ((List.mergeSort_perm (matesOf bs iss ks) fun a b => leN a.name b.name).filter _).symm
    unfold matesOf
    rw [List.filter_filter]
    refine List.Perm.of_eq (List.filter_congr fun b mb => ?_)
    show (decide (b.name ∈ ks) && (decide (b.issuer = iss) && !decide (b.name = nm))) = (!decide (b.name = nm) && (decide (b.issuer = iss) && decide (b.name ∈ ks)))
    cases decide (b.name ∈ ks) <;> cases decide (b.issuer = iss) <;> cases decide (b.name = nm) <;> rfl
  · have h := mates_pair (matesOf bs iss ks)
    exact h.sublist (List.Sublist.map _ (List.filter_sublist))
end Cs
set_option maxHeartbeats 4000000
namespace Cs
open PySem PySem.Spec PyProof.Rows L2
def topS (i : Nat) : Stmt := PySem.Challenge.pw_consol_k47_rows_of_causes_of_defaults.main.body.getD i (.Pass ⟨0, 0, 0, 0⟩)
local macro_rules | `(tactic| walk_at "rd") => `(tactic| (first
  | (refine ⟨_, rfl, ?_⟩)
  | (refine ⟨_, _, rfl, rfl, ?_⟩)
  | (refine .inl ⟨_, rfl, ?_⟩)
  | (refine .inr ⟨_, rfl, ?_⟩)
  | (refine ⟨_, _, _, _, rfl, rfl, SqL.of upd_same, rfl, ?_⟩)
  | (refine ⟨_, _, _, _, rfl, rfl, upd_same, rfl, ?_⟩)
  | (refine ⟨_, ?xs, _, ?v, rfl, rfl, ?h, ?x, ?_⟩; (case h => first | exact SqL.of (by assumption) | exact SqT.of (by assumption) | assumption); (case x => first | rfl | exact atI_nat (j := 0) rfl | exact atI_nat (j := 1) rfl))))
local macro_rules | `(tactic| walk_at "isi") => `(tactic| (first
  | (refine ⟨_, _, _, _, _, rfl, .ty _, .base (.int _), kit_ty kit_it, ?_⟩)
  | (refine ⟨_, _, _, _, _, rfl, .ty _, .base (.int _), kit_ty kit_ib, ?_⟩)
  | (refine ⟨_, _, _, _, _, rfl, .ty _, .base (.int _), kit_ty kit_ii, ?_⟩)
  | (refine ⟨_, _, _, _, _, rfl, .ty _, .base (.bl _), kit_ty kit_bt, ?_⟩)
  | (refine ⟨_, _, _, _, _, rfl, .ty _, .base (.bl _), kit_ty kit_bb, ?_⟩)
  | (refine ⟨_, _, _, _, _, rfl, .ty _, .base (.bl _), kit_ty kit_bi, ?_⟩)))
local macro_rules | `(tactic| walk_at "ev") => `(tactic| (first
  | exact ev_var rfl
  | exact ev_int
  | exact ev_str
  | exact ev_bl
  | exact ev_non
  | (refine ev_add ?_ ?_ <;> walk_at "ev")
  | (refine ev_sub ?_ ?_ <;> walk_at "ev")
  | (refine ev_mul ?_ ?_ ?_ <;> (try walk_at "ev"))
  | (refine ev_neg ?_ <;> walk_at "ev")
  | (refine ev_num ?_ <;> walk_at "ev")
  | (refine ev_den ?_ <;> walk_at "ev")
  | (refine ev_cmp ?_ ?_ <;> walk_at "ev")
  | (refine ev_eqI ?_ ?_ <;> walk_at "ev")
  | (refine ev_eqS ?_ ?_ <;> walk_at "ev")
  | (refine ev_neI ?_ ?_ <;> walk_at "ev")
  | (refine ev_neS ?_ ?_ <;> walk_at "ev")
  | (refine ev_inS ?_ ?_ <;> walk_at "ev")
  | (refine ev_niS ?_ ?_ <;> walk_at "ev")
  | (refine ev_len ?_ <;> walk_at "ev")
  | (refine ev_list ?_ <;> walk_at "ev")
  | (refine ev_listRev ?_ <;> walk_at "ev")
  | (refine ev_int1 ?_ <;> walk_at "ev")))
local macro_rules | `(tactic| walk_at "ea") => `(tactic| (first
  | exact ea_nil
  | (refine ea_cons ?_ ?_ <;> (first | walk_at "ev" | walk_at "ea" | skip))))
local macro_rules | `(tactic| walk_at "sb") => `(tactic| (first | exact True.intro | (refine And.intro rfl ?_; walk_at "sb")))
section
variable {P : Program} {w : World} {K : PySem.W.Frag} {mg : Str → Option Value} {base : Heap}
abbrev sDeck : Stmt := topS 24
theorem scDeck : FnScope ["script"] ["script"] (defScope sDeck) := ⟨rfl, rfl, rfl, by decide +kernel, rfl, by decide +kernel, by decide +kernel⟩
theorem ok_deck {f : Addr} {fd : FuncData} {k : Nat} (F : Fun K "_law_deck" "_law_deck" sDeck f fd) (z_list : mg "list" = none) : FnOk P w K mg base CX0 (k + 1) f fd ["script"] (spDeckN K) := by
  refine F.ok scDeck (fun vs H Q E h => ?_) (fun cdv A outer s H vs Q E hr h => ?_)
  · obtain ⟨a, ns, rfl, _⟩ := h
    rfl
  · obtain ⟨a, ns, rfl, hS, q⟩ := h
    refine ⟨_, (pss_one (ps_ret (pe_lst (pa_cons (pe_callTy call_list_of (by rfl) z_list (by decide +kernel) (pa_cons (pv 0) pa_nil)) (pa_cons pe_int (pa_cons pe_int (pa_cons pe_int pa_nil))))))), ?_⟩
    refine ⟨_, rfl, _, _, rfl, .inl hS, fun l hl => ?_⟩
    refine ⟨by show 4 ≤ sizeLine; decide, fun d hd => ?_⟩
    have hdl : d ≠ l := fun e => by rw [e, upd_same] at hd; cases hd
    have hd0 : H d = none := by rw [upd_ne hdl] at hd; exact hd
    refine q d l _ ((Same.new hl).trans (Same.new hd)) hd0 hl ⟨0, 0, 7, upd_same, .inl (.inl ?_), hdl.symm, Int.le_refl _⟩
    rw [upd_ne hdl.symm, upd_same]
abbrev sDraw : Stmt := topS 25
theorem scDraw : FnScope ["deck", "most", "value", "cell"] ["deck", "most"] (defScope sDraw) := ⟨rfl, rfl, rfl, by decide +kernel, rfl, by decide +kernel, by decide +kernel⟩
theorem ok_draw {f : Addr} {fd : FuncData} {k : Nat} (F : Fun K "_law_draw" "_law_draw" sDraw f fd) (z_len : mg "len" = none) (z_int : mg "int" = none) : FnOk P w K mg base CX0 (k + 1) f fd ["deck", "most"] (spDrawA K) := by
  refine F.ok scDraw (fun vs H Q E h => ?_) (fun cdv A outer s H vs Q E hr h => ?_)
  · obtain ⟨a, m, l, ns, rfl, _⟩ := h
    rfl
  · obtain ⟨d, m, l, ns, rfl, m0, mb, ⟨b, c, e, hd, hl, ne, b0⟩, q⟩ := h
    refine ⟨_, (pss_cons (ps_if (pt_cmpR op_ge (pe_ix ix_list (pv 0) pe_int (fun _ _ => rfl)) (pv 1) (nomark _)) (pss_cons (ps_set (i := 2) scDraw.nd rfl (Or.inl rfl) (pe_op op_mod (pe_callTy call_int1 (by rfl) z_int (by decide +kernel) (pa_cons (pe_ix ix_list (pv 0) pe_int (fun _ _ => rfl)) pa_nil)) (pv 1)))
      (pss_cons (ps_asg (pe_op op_fdivA (pe_ix ix_list (pv 0) pe_int (fun _ _ => rfl)) (pv 1)) (pg_sub (pv 0) pe_int set_list))
      (pss_one (ps_ret (pv 2))))) pss_nil)
      (pss_cons (ps_set (i := 3) scDraw.nd rfl (Or.inl rfl) pe_int)
      (pss_cons (ps_if (pt_cmpR op_lt (pe_ix ix_list (pv 0) pe_int (fun _ _ => rfl)) (pe_callB call_len_seq (by rfl) z_len PySem.boot_len (pa_cons (pe_ix ix_list (pv 0) pe_int (fun _ _ => rfl)) pa_nil)) (nomark _)) (pss_one (ps_set (i := 3) scDraw.nd rfl (Or.inl rfl) (pe_ix ix_list (pe_ix ix_list (pv 0) pe_int (fun _ _ => rfl)) (pe_ix ix_list (pv 0) pe_int (fun _ _ => rfl)) (fun _ _ => rfl)))) pss_nil)
      (pss_cons (ps_asg (pe_op op_add (pe_ix ix_list (pv 0) pe_int (fun _ _ => rfl)) pe_int) (pg_sub (pv 0) pe_int set_list))
      (pss_cons (ps_asg pe_int (pg_sub (pv 0) pe_int set_list))
      (pss_cons (ps_if (pt_cmpR op_ge (pv 3) (pe_op op_pow pe_int pe_int) (nomark _)) (pss_cons (ps_asg (pe_op op_fdivA (pv 3) (pv 1)) (pg_sub (pv 0) pe_int set_list))
      (pss_one (ps_ret (pe_op op_mod (pe_callTy call_int1 (by rfl) z_int (by decide +kernel) (pa_cons (pv 3) pa_nil)) (pv 1))))) pss_nil)
      (pss_cons (ps_asg (pe_op op_mod (pe_callTy call_int1 (by rfl) z_int (by decide +kernel) (pa_cons (pe_op op_add (pe_op op_add (pe_op op_mulA (pe_ix ix_list (pv 0) pe_int (fun _ _ => rfl)) pe_int) (pe_op op_mulA (pv 3) pe_int)) (pe_op op_mulA (pe_ix ix_list (pv 0) pe_int (fun _ _ => rfl)) pe_int)) pa_nil)) pe_int) (pg_sub (pv 0) pe_int set_list))
      (pss_cons (ps_asg (pe_op op_mod (pe_callTy call_int1 (by rfl) z_int (by decide +kernel) (pa_cons (pe_op op_add (pe_op op_mulA (pe_ix ix_list (pv 0) pe_int (fun _ _ => rfl)) pe_int) pe_int) pa_nil)) pe_int) (pg_sub (pv 0) pe_int set_list))
      (pss_one (ps_ret (pe_op op_mod (pe_callTy call_int1 (by rfl) z_int (by decide +kernel) (pa_cons (pe_op op_fdivA (pe_ix ix_list (pv 0) pe_int (fun _ _ => rfl)) pe_int) pa_nil)) (pv 1)))))))))))), ?_⟩
    have mb9 : m.natAbs < 2 ^ 9000 := Nat.lt_trans mb (Nat.pow_lt_pow_right (by decide) (by decide))
    repeat walk_at "rd"
    refine ite2 (fun h1 => ?_) (fun h1 => ?_)
    · repeat walk_at "rd"
      refine ⟨m0, ?_⟩
      repeat walk_at "rd"
      refine ⟨⟨by omega, mb9⟩, ?_⟩
      repeat walk_at "rd"
      exact q _ _ (Int.emod_nonneg _ (by omega)) (Int.emod_lt_of_pos _ m0) But.upd (deckA_of hl ne But.upd upd_same b0)
    · repeat walk_at "rd"
      refine ⟨_, _, rfl, .inl hl, ?_⟩
      repeat walk_at "rd"
      refine ite2 (fun h2 => ?_) (fun h2 => ?_)
      · repeat walk_at "rd"
        obtain ⟨z, hz⟩ := cell_at (ns := ns) b0 (by have := of_decide_eq_true h2; rw [List.length_map] at this; exact this)
        refine ⟨_, _, _, _, rfl, rfl, hl, hz, ?_⟩
        repeat walk_at "rd"
        refine ⟨⟨by decide, by decide, by decide⟩, ?_⟩
        repeat walk_at "rd"
        refine ite2 (fun h3 => ?_) (fun h3 => ?_)
        · repeat walk_at "rd"
          refine ⟨⟨by omega, mb9⟩, ?_⟩
          repeat walk_at "rd"
          refine ⟨m0, ?_⟩
          exact q _ _ (Int.emod_nonneg _ (by omega)) (Int.emod_lt_of_pos _ m0) (((But.upd.trans But.upd)).trans But.upd) (deckA_of hl ne (((But.upd.trans But.upd)).trans But.upd) upd_same (show (0 : Int) ≤ b + 1 by omega))
        · repeat walk_at "rd"
          refine ⟨mulR (by decide), ?_⟩
          repeat walk_at "rd"
          refine ⟨mulR (by decide), ?_⟩
          repeat walk_at "rd"
          refine ⟨mulR (by decide), ?_⟩
          repeat walk_at "rd"
          refine ⟨(show (0 : Int) < 2147483647 by decide), ?_⟩
          repeat walk_at "rd"
          refine ⟨mulR (by decide), ?_⟩
          repeat walk_at "rd"
          refine ⟨(show (0 : Int) < 2147483647 by decide), ?_⟩
          repeat walk_at "rd"
          refine ⟨⟨by decide, by decide⟩, ?_⟩
          repeat walk_at "rd"
          refine ⟨m0, ?_⟩
          exact q _ _ (Int.emod_nonneg _ (by omega)) (Int.emod_lt_of_pos _ m0) (((But.upd.trans But.upd).trans But.upd).trans But.upd) (deckA_of hl ne (((But.upd.trans But.upd).trans But.upd).trans But.upd) upd_same (show (0 : Int) ≤ b + 1 by omega))
      · repeat walk_at "rd"
        refine ⟨⟨by decide, by decide, by decide⟩, ?_⟩
        repeat walk_at "rd"
        repeat walk_at "rd"
        refine ⟨mulR (by decide), ?_⟩
        repeat walk_at "rd"
        refine ⟨mulR (by decide), ?_⟩
        repeat walk_at "rd"
        refine ⟨mulR (by decide), ?_⟩
        repeat walk_at "rd"
        refine ⟨(show (0 : Int) < 2147483647 by decide), ?_⟩
        repeat walk_at "rd"
        refine ⟨mulR (by decide), ?_⟩
        repeat walk_at "rd"
        refine ⟨(show (0 : Int) < 2147483647 by decide), ?_⟩
        repeat walk_at "rd"
        refine ⟨⟨by decide, by decide⟩, ?_⟩
        repeat walk_at "rd"
        refine ⟨m0, ?_⟩
        exact q _ _ (Int.emod_nonneg _ (by omega)) (Int.emod_lt_of_pos _ m0) (((But.upd.trans But.upd).trans But.upd).trans But.upd) (deckA_of hl ne (((But.upd.trans But.upd).trans But.upd).trans But.upd) upd_same (show (0 : Int) ≤ b + 1 by omega))
abbrev sGcd : Stmt := topS 28
theorem scGcd : FnScope ["a", "b", "k", "rest"] ["a", "b"] (defScope sGcd) := ⟨rfl, rfl, rfl, by decide +kernel, rfl, by decide +kernel, by decide +kernel⟩
theorem ok_gcd {f : Addr} {fd : FuncData} {k : Nat} (F : Fun K "_law_gcd" "_law_gcd" sGcd f fd) (z_range : mg "range" = none) (z_int : mg "int" = none) : FnOk P w K mg base CX0 (k + 1) f fd ["a", "b"] spGcd := by
  refine F.ok scGcd (fun vs H Q E h => ?_) (fun cdv A outer s H vs Q E hr h => ?_)
  · obtain ⟨a, b, rfl, _⟩ := h
    rfl
  · obtain ⟨a, b, rfl, ha, hb, q⟩ := h
    refine ⟨_, (pss_cons (ps_for PassesOwn.never rfl (pi_range1 rfl z_range (pa_cons pe_int pa_nil)) (pg_name (i := 2) scGcd.nd rfl (Or.inl rfl)) (pss_cons (ps_if (pt_cmpR op_eq (pv 1) pe_int (nomark _)) (pss_one (ps_ret (pv 0))) pss_nil)
      (pss_cons (ps_set (i := 3) scGcd.nd rfl (Or.inl rfl) (pe_op op_mod (pe_callTy call_int1 (by rfl) z_int (by decide +kernel) (pa_cons (pv 0) pa_nil)) (pv 1)))
      (pss_cons (ps_set (i := 0) scGcd.nd rfl (Or.inl rfl) (pv 1))
      (pss_one (ps_set (i := 1) scGcd.nd rfl (Or.inl rfl) (pv 3)))))))
      (pss_one (ps_ret (pv 0)))), ?_⟩
    have hab : a * b < 2 ^ 4800 := Nat.lt_of_lt_of_eq (Nat.mul_lt_mul'' ha hb) (Nat.pow_add 2 2400 2400).symm
    refine ⟨5000, rfl, by decide, by decide, for_range (n := 5000) (fun i σ H' => ∃ (x y : Nat) (k2 k3 : Option V), σ = [some (.int x), some (.int y), k2, k3] ∧ H' = H ∧ ((i ≤ 4801 ∧ EG (Nat.gcd a b) 4800 i x y) ∨ (y = 0 ∧ x = Nat.gcd a b))) ?_ ?_ ?_⟩
    · exact ⟨a, b, none, none, rfl, rfl, .inl ⟨by omega, EG.start hab⟩⟩
    · intro i σ H1 hi hP
      obtain ⟨x, y, k2, k3, rfl, rfl, hP⟩ := hP
      refine ⟨_, rfl, rfl, _, rfl, ite2 (fun h0 => ?_) (fun h0 => ?_)⟩
      · have hy : y = 0 := by have := V.int.inj (of_decide_eq_true h0); omega
        refine ⟨_, rfl, ?_⟩
        have hx : x = Nat.gcd a b := by
          rcases hP with ⟨_, hE⟩ | ⟨_, hx⟩
          · subst hy; exact hE.zero
          · exact hx
        subst hx
        exact q
      · have hy : 0 < y := by
          rcases Nat.eq_zero_or_pos y with z | z
          · subst z; exact absurd (decide_eq_true rfl) h0
          · exact z
        rcases hP with ⟨hi2, hE⟩ | ⟨z, _⟩
        · have hi3 : i ≤ 4800 := by
            rcases Nat.lt_or_ge i 4801 with z | z
            · omega
            · have e : i = 4801 := by omega
              subst e
              have := hE.last
              omega
          repeat walk_at "rd"
          refine ⟨(show (0 : Int) < (y : Int) by omega), ?_⟩
          repeat walk_at "rd"
          exact ⟨y, x % y, some (.int (0 + (i : Int))), some (.int ((x : Int) % (y : Int))), rfl, rfl, .inl ⟨by omega, hE.step hy hi3⟩⟩
        · omega
    · intro σ H1 hP
      obtain ⟨x, y, k2, k3, rfl, rfl, hP⟩ := hP
      refine ⟨_, rfl, ?_⟩
      rcases hP with ⟨z, _⟩ | ⟨_, hx⟩
      · omega
      · subst hx
        exact q
abbrev sRatio : Stmt := topS 29
theorem scRatio : FnScope ["p", "q", "divisor"] ["p", "q"] (defScope sRatio) := ⟨rfl, rfl, rfl, by decide +kernel, rfl, by decide +kernel, by decide +kernel⟩
theorem ok_ratio {f : Addr} {fd : FuncData} {k : Nat} (F : Fun K "_law_ratio" "_law_ratio" sRatio f fd) (c_law_gcd : Cal P w K mg base k "_law_gcd" ["a", "b"] spGcd) (z_abs : mg "abs" = none) : FnOk P w K mg base CX0 (k + 1) f fd ["p", "q"] spRatio := by
  refine F.ok scRatio (fun vs H Q E h => ?_) (fun cdv A outer s H vs Q E hr h => ?_)
  · obtain ⟨a, b, rfl, _⟩ := h
    rfl
  · obtain ⟨p, q, rfl, q0, hp, hq, out⟩ := h
    refine ⟨_, (pss_cons (ps_set (i := 2) scRatio.nd rfl (Or.inl rfl) (pe_cal c_law_gcd hr (by rfl) (pa_cons (pe_callB call_abs (by rfl) z_abs (by decide +kernel) (pa_cons (pv 0) pa_nil)) (pa_cons (pe_callB call_abs (by rfl) z_abs (by decide +kernel) (pa_cons (pv 1) pa_nil)) pa_nil))))
      (pss_cons (ps_if (pt_cmpR op_lt (pv 1) pe_int (nomark _)) (pss_one (ps_set (i := 2) scRatio.nd rfl (Or.inl rfl) (pe_un un_neg (pv 2)))) pss_nil)
      (pss_one (ps_ret (pe_tup (pa_cons (pe_op op_fdivA (pv 0) (pv 2)) (pa_cons (pe_op op_fdivA (pv 1) (pv 2)) pa_nil))))))), ?_⟩
    refine ⟨_, rfl, _, rfl, _, rfl, _, rfl, p.natAbs, q.natAbs, ?_, hp, hq, ?_⟩
    · have : ∀ z : Int, (if z < 0 then -z else z) = (z.natAbs : Int) := fun z => by split <;> omega
      rw [this, this]
      rfl
    have hg := gcd_pos p q q0
    have hgb : ((Nat.gcd p.natAbs q.natAbs : Nat) : Int).natAbs < 2 ^ 9000 := by
      rw [Int.natAbs_natCast]
      exact Nat.lt_of_le_of_lt (Nat.gcd_le_right _ (by omega)) (Nat.lt_trans hq (Nat.pow_lt_pow_right (by decide) (by decide)))
    have en := frac_num p q q0
    have ed := frac_den p q q0
    repeat walk_at "rd"
    refine ite2 (fun h1 => ?_) (fun h1 => ?_)
    · have h1' : q < 0 := of_decide_eq_true h1
      rw [if_pos h1'] at en ed
      repeat walk_at "rd"
      refine ⟨⟨by omega, by rw [Int.natAbs_neg]; exact hgb⟩, ?_⟩
      repeat walk_at "rd"
      refine ⟨⟨by omega, by rw [Int.natAbs_neg]; exact hgb⟩, by show 2 ≤ sizeLine; decide, fun t ht => ?_⟩
      refine out t _ (Same.new ht) ht (upd_same.trans ?_)
      show some (HO.tup [.int (p.fdiv _), .int (q.fdiv _)]) = some (HO.tup [.int _, .int _])
      rw [en, ed]
    · have h1' : ¬ q < 0 := fun z => h1 (decide_eq_true z)
      rw [if_neg h1'] at en ed
      repeat walk_at "rd"
      refine ⟨⟨by omega, hgb⟩, ?_⟩
      repeat walk_at "rd"
      refine ⟨⟨by omega, hgb⟩, by show 2 ≤ sizeLine; decide, fun t ht => ?_⟩
      refine out t _ (Same.new ht) ht (upd_same.trans ?_)
      show some (HO.tup [.int (p.fdiv _), .int (q.fdiv _)]) = some (HO.tup [.int _, .int _])
      rw [en, ed]
abbrev sFraction : Stmt := topS 7
theorem scFraction : FnScope ["p", "q", "divisor"] ["p", "q"] (defScope sFraction) := ⟨rfl, rfl, rfl, by decide +kernel, rfl, by decide +kernel, by decide +kernel⟩
theorem ok_fraction {f : Addr} {fd : FuncData} {k : Nat} (F : FunD K "fraction" "fraction" (defArgs sFraction) (defBody sFraction) (defScope sFraction) [.int 1] [] f fd) (m_gcd : mg "gcd" = some (.builtin "math.gcd")) : FnOk P w K mg base CX0 (k + 1) f fd ["p", "q"] spFrac := by
  refine F.ok scFraction (fun vs H Q E h => ?_) (fun cdv A outer s H vs Q E hr h => ?_)
  · obtain ⟨a, b, rfl, _⟩ := h
    rfl
  · obtain ⟨p, q, rfl, q0, hq, out⟩ := h
    refine ⟨_, (pss_cons (ps_if (pt_cmpR op_eq (pv 1) pe_int (nomark _)) (pss_one ps_never) pss_nil)
      (pss_cons (ps_set (i := 2) scFraction.nd rfl (Or.inl rfl) (pe_callBfun cr_gcd (by rfl) m_gcd (pa_cons (pv 0) (pa_cons (pv 1) pa_nil))))
      (pss_cons (ps_if (pt_cmpR op_lt (pv 1) pe_int (nomark _)) (pss_one (ps_set (i := 2) scFraction.nd rfl (Or.inl rfl) (pe_un un_neg (pv 2)))) pss_nil)
      (pss_one (ps_ret (pe_tup (pa_cons (pe_op op_fdivA (pv 0) (pv 2)) (pa_cons (pe_op op_fdivA (pv 1) (pv 2)) pa_nil)))))))), ?_⟩
    have hg := gcd_pos p q q0
    have hgb : ((Nat.gcd p.natAbs q.natAbs : Nat) : Int).natAbs < 2 ^ 9000 := by
      rw [Int.natAbs_natCast]
      exact Nat.lt_of_le_of_lt (Nat.gcd_le_right _ (by omega)) hq
    have en := frac_num p q q0
    have ed := frac_den p q q0
    refine ⟨_, rfl, rfl, _, rfl, ite2 (fun h0 => absurd (V.int.inj (of_decide_eq_true h0)) q0) (fun h0 => ?_)⟩
    refine ⟨_, rfl, _, rfl, _, _, rfl, ?_⟩
    repeat walk_at "rd"
    refine ite2 (fun h1 => ?_) (fun h1 => ?_)
    · have h1' : q < 0 := of_decide_eq_true h1
      rw [if_pos h1'] at en ed
      repeat walk_at "rd"
      refine ⟨⟨by omega, by rw [Int.natAbs_neg]; exact hgb⟩, ?_⟩
      repeat walk_at "rd"
      refine ⟨⟨by omega, by rw [Int.natAbs_neg]; exact hgb⟩, by show 2 ≤ sizeLine; decide, fun t ht => ?_⟩
      refine out t _ (Same.new ht) ht (upd_same.trans ?_)
      show some (HO.tup [.int (p.fdiv _), .int (q.fdiv _)]) = some (HO.tup [.int _, .int _])
      rw [en, ed]
    · have h1' : ¬ q < 0 := fun z => h1 (decide_eq_true z)
      rw [if_neg h1'] at en ed
      repeat walk_at "rd"
      refine ⟨⟨by omega, hgb⟩, ?_⟩
      repeat walk_at "rd"
      refine ⟨⟨by omega, hgb⟩, by show 2 ≤ sizeLine; decide, fun t ht => ?_⟩
      refine out t _ (Same.new ht) ht (upd_same.trans ?_)
      show some (HO.tup [.int (p.fdiv _), .int (q.fdiv _)]) = some (HO.tup [.int _, .int _])
      rw [en, ed]
end
end Cs
set_option maxHeartbeats 4000000
namespace Cs
open PySem PySem.Spec PyProof.Rows L2
local macro_rules | `(tactic| walk_at "rd") => `(tactic| (first
  | (refine ⟨_, rfl, ?_⟩)
  | (refine ⟨_, _, rfl, rfl, ?_⟩)
  | (refine .inl ⟨_, rfl, ?_⟩)
  | (refine .inr ⟨_, rfl, ?_⟩)
  | (refine ⟨_, _, _, _, rfl, rfl, SqL.of upd_same, rfl, ?_⟩)
  | (refine ⟨_, _, _, _, rfl, rfl, upd_same, rfl, ?_⟩)
  | (refine ⟨_, ?xs, _, ?v, rfl, rfl, ?h, ?x, ?_⟩; (case h => first | exact SqL.of (by assumption) | exact SqT.of (by assumption) | assumption); (case x => first | rfl | exact atI_nat (j := 0) rfl | exact atI_nat (j := 1) rfl))))
local macro_rules | `(tactic| walk_at "isi") => `(tactic| (first
  | (refine ⟨_, _, _, _, _, rfl, .ty _, .base (.int _), kit_ty kit_it, ?_⟩)
  | (refine ⟨_, _, _, _, _, rfl, .ty _, .base (.int _), kit_ty kit_ib, ?_⟩)
  | (refine ⟨_, _, _, _, _, rfl, .ty _, .base (.int _), kit_ty kit_ii, ?_⟩)
  | (refine ⟨_, _, _, _, _, rfl, .ty _, .base (.bl _), kit_ty kit_bt, ?_⟩)
  | (refine ⟨_, _, _, _, _, rfl, .ty _, .base (.bl _), kit_ty kit_bb, ?_⟩)
  | (refine ⟨_, _, _, _, _, rfl, .ty _, .base (.bl _), kit_ty kit_bi, ?_⟩)))
local macro_rules | `(tactic| walk_at "ev") => `(tactic| (first
  | exact ev_var rfl
  | exact ev_int
  | exact ev_str
  | exact ev_bl
  | exact ev_non
  | (refine ev_add ?_ ?_ <;> walk_at "ev")
  | (refine ev_sub ?_ ?_ <;> walk_at "ev")
  | (refine ev_mul ?_ ?_ ?_ <;> (try walk_at "ev"))
  | (refine ev_neg ?_ <;> walk_at "ev")
  | (refine ev_num ?_ <;> walk_at "ev")
  | (refine ev_den ?_ <;> walk_at "ev")
  | (refine ev_cmp ?_ ?_ <;> walk_at "ev")
  | (refine ev_eqI ?_ ?_ <;> walk_at "ev")
  | (refine ev_eqS ?_ ?_ <;> walk_at "ev")
  | (refine ev_neI ?_ ?_ <;> walk_at "ev")
  | (refine ev_neS ?_ ?_ <;> walk_at "ev")
  | (refine ev_inS ?_ ?_ <;> walk_at "ev")
  | (refine ev_niS ?_ ?_ <;> walk_at "ev")
  | (refine ev_len ?_ <;> walk_at "ev")
  | (refine ev_list ?_ <;> walk_at "ev")
  | (refine ev_listRev ?_ <;> walk_at "ev")
  | (refine ev_int1 ?_ <;> walk_at "ev")))
local macro_rules | `(tactic| walk_at "ea") => `(tactic| (first
  | exact ea_nil
  | (refine ea_cons ?_ ?_ <;> (first | walk_at "ev" | walk_at "ea" | skip))))
local macro_rules | `(tactic| walk_at "sb") => `(tactic| (first | exact True.intro | (refine And.intro rfl ?_; walk_at "sb")))
section
variable {P : Program} {w : World} {K : PySem.W.Frag} {mg : Str → Option Value} {base : Heap}
def AFr2 (K : PySem.W.Frag) (x : Rat × Rat) : List SF := [(tFr K).is x.1, (tFr K).is x.2]
abbrev spPlus (K : PySem.W.Frag) : Sp := spP (AFr2 K) (tFr K) (fun x => Sz 1000 x.1 ∧ Sz 1000 x.2) (fun x => x.1 + x.2)
abbrev spTimes (K : PySem.W.Frag) : Sp := spP (AFr2 K) (tFr K) (fun x => Sz 1000 x.1 ∧ Sz 1000 x.2) (fun x => x.1 * x.2)
abbrev spOrder (K : PySem.W.Frag) : Sp := spP (AFr2 K) tInt (fun x => Sz 1000 x.1 ∧ Sz 1000 x.2) (fun x => cmpR x.1 x.2)
abbrev spSign (K : PySem.W.Frag) : Sp := spP (fun x : Rat => [(tFr K).is x]) tInt (fun _ => True) (fun x => x.num.sign)
abbrev spTotal (K : PySem.W.Frag) : Sp := spP (fun xs : List Rat => [(tLs K (tFr K)).is xs]) (tFr K) (fun xs => (∀ r ∈ xs, Sz 20 r) ∧ xs.length ≤ 40) rsum
abbrev sPlus : Stmt := topS 8
theorem scPlus : FnScope ["a", "b"] ["a", "b"] (defScope sPlus) := ⟨rfl, rfl, rfl, by decide +kernel, rfl, by decide +kernel, by decide +kernel⟩
theorem ok_plus {f : Addr} {fd : FuncData} {k : Nat} (F : Fun K "plus" "plus" sPlus f fd) (c_fraction : Cal P w K mg base k "fraction" ["p", "q"] spFrac) : FnOk P w K mg base CX0 (k + 1) f fd ["a", "b"] (spPlus K) := by
  refine ok_P F scPlus (fun _ => rfl) fun cdv A outer s H0 S x Q E hr hp out => ⟨_, (pss_one (ps_ret (pe_cal c_fraction hr (by rfl) (pa_cons (pe_op op_add (pe_op op_mulA (pe_ix ix_tup (pv 0) pe_int (fun _ _ => rfl)) (pe_ix ix_tup (pv 1) pe_int (fun _ _ => rfl))) (pe_op op_mulA (pe_ix ix_tup (pv 1) pe_int (fun _ _ => rfl)) (pe_ix ix_tup (pv 0) pe_int (fun _ _ => rfl)))) (pa_cons (pe_op op_mulA (pe_ix ix_tup (pv 0) pe_int (fun _ _ => rfl)) (pe_ix ix_tup (pv 1) pe_int (fun _ _ => rfl))) pa_nil))))), ?_⟩
  obtain ⟨h, g⟩ := hp
  refine go_end (y := x.1 + x.2) (ev_is (ev_frc (ev_add (ev_mul (ev_num (ev_var rfl)) (ev_den (ev_var rfl)) ?_) (ev_mul (ev_num (ev_var rfl)) (ev_den (ev_var rfl)) ?_)) (ev_mul (ev_den (ev_var rfl)) (ev_den (ev_var rfl)) ?_) ?_ ?_) ?_) out
  · exact mulZ h.nn g.dd
  · exact mulZ g.nn h.dd
  · exact mulZ h.dd g.dd
  · exact Int.mul_ne_zero (den_ne _) (den_ne _)
  · exact lt9 (pow_lt h.dd g.dd) (by decide)
  · exact add_div _ _
abbrev sTimes : Stmt := topS 9
theorem scTimes : FnScope ["a", "b"] ["a", "b"] (defScope sTimes) := ⟨rfl, rfl, rfl, by decide +kernel, rfl, by decide +kernel, by decide +kernel⟩
theorem ok_times {f : Addr} {fd : FuncData} {k : Nat} (F : Fun K "times" "times" sTimes f fd) (c_fraction : Cal P w K mg base k "fraction" ["p", "q"] spFrac) : FnOk P w K mg base CX0 (k + 1) f fd ["a", "b"] (spTimes K) := by
  refine ok_P F scTimes (fun _ => rfl) fun cdv A outer s H0 S x Q E hr hp out => ⟨_, (pss_one (ps_ret (pe_cal c_fraction hr (by rfl) (pa_cons (pe_op op_mulA (pe_ix ix_tup (pv 0) pe_int (fun _ _ => rfl)) (pe_ix ix_tup (pv 1) pe_int (fun _ _ => rfl))) (pa_cons (pe_op op_mulA (pe_ix ix_tup (pv 0) pe_int (fun _ _ => rfl)) (pe_ix ix_tup (pv 1) pe_int (fun _ _ => rfl))) pa_nil))))), ?_⟩
  obtain ⟨h, g⟩ := hp
  refine go_end (y := x.1 * x.2) (ev_is (ev_frc (ev_mul (ev_num (ev_var rfl)) (ev_num (ev_var rfl)) ?_) (ev_mul (ev_den (ev_var rfl)) (ev_den (ev_var rfl)) ?_) ?_ ?_) ?_) out
  · exact mulZ h.nn g.nn
  · exact mulZ h.dd g.dd
  · exact Int.mul_ne_zero (den_ne _) (den_ne _)
  · exact lt9 (pow_lt h.dd g.dd) (by decide)
  · exact mul_div _ _
abbrev sSign : Stmt := topS 11
theorem scSign : FnScope ["a"] ["a"] (defScope sSign) := ⟨rfl, rfl, rfl, by decide +kernel, rfl, by decide +kernel, by decide +kernel⟩
theorem ok_sign {f : Addr} {fd : FuncData} {k : Nat} (F : Fun K "sign" "sign" sSign f fd) : FnOk P w K mg base CX0 (k + 1) f fd ["a"] (spSign K) := by
  refine ok_P F scSign (fun _ => rfl) fun cdv A outer s H0 S x Q E hr hp out => ⟨_, (pss_cons (ps_if (pt_cmpR op_lt (pe_ix ix_tup (pv 0) pe_int (fun _ _ => rfl)) pe_int (nomark _)) (pss_one (ps_ret (pe_un un_neg pe_int))) pss_nil)
      (pss_one (ps_ret (pe_ifExp (pt_cmpR op_gt (pe_ix ix_tup (pv 0) pe_int (fun _ _ => rfl)) pe_int (nomark _)) pe_int pe_int)))), ?_⟩
  refine go_ifr (et_of (ev_cmp (ev_num (ev_var rfl)) ev_int)) (fun hb => ?_) (fun hb => ?_)
  · refine go_end (y := x.num.sign) (ev_is (ev_neg ev_int) ?_) out
    exact (Int.sign_eq_neg_one_of_neg (of_decide_eq_true hb)).symm
  · have h0 : ¬ x.num < 0 := of_decide_eq_false hb
    refine go_end (y := x.num.sign) (ev_if (et_of (ev_cmp (ev_num (ev_var rfl)) ev_int)) (fun h => ev_is ev_int ?_) (fun h => ev_is ev_int ?_)) out
    · exact (Int.sign_eq_one_of_pos (of_decide_eq_true h)).symm
    · have h1 : ¬ 0 < x.num := of_decide_eq_false h
      have : x.num = 0 := by omega
      rw [this]; rfl
abbrev sOrder : Stmt := topS 10
theorem scOrder : FnScope ["a", "b"] ["a", "b"] (defScope sOrder) := ⟨rfl, rfl, rfl, by decide +kernel, rfl, by decide +kernel, by decide +kernel⟩
theorem ok_order {f : Addr} {fd : FuncData} {k : Nat} (F : Fun K "order" "order" sOrder f fd) (c_sign : Cal P w K mg base k "sign" ["a"] (spSign K)) : FnOk P w K mg base CX0 (k + 1) f fd ["a", "b"] (spOrder K) := by
  refine ok_P F scOrder (fun _ => rfl) fun cdv A outer s H0 S x Q E hr hp out => ⟨_, (pss_one (ps_ret (pe_cal c_sign hr (by rfl) (pa_cons (pe_tup (pa_cons (pe_op op_sub (pe_op op_mulA (pe_ix ix_tup (pv 0) pe_int (fun _ _ => rfl)) (pe_ix ix_tup (pv 1) pe_int (fun _ _ => rfl))) (pe_op op_mulA (pe_ix ix_tup (pv 1) pe_int (fun _ _ => rfl)) (pe_ix ix_tup (pv 0) pe_int (fun _ _ => rfl)))) (pa_cons pe_int pa_nil))) pa_nil)))), ?_⟩
  obtain ⟨h, g⟩ := hp
  refine go_end (y := cmpR x.1 x.2) (ev_is (ev_call (z := _) (ea_cons (ev_fracI (K := K) (ev_sub (ev_mul (ev_num (ev_var rfl)) (ev_den (ev_var rfl)) ?_) (ev_mul (ev_num (ev_var rfl)) (ev_den (ev_var rfl)) ?_))) ea_nil) ?_) ?_) out
  · exact mulZ h.nn g.dd
  · exact mulZ g.nn h.dd
  · exact True.intro
  · rfl
abbrev sTotal : Stmt := topS 12
theorem scTotal : FnScope ["values", "result", "value"] ["values"] (defScope sTotal) := ⟨rfl, rfl, rfl, by decide +kernel, rfl, by decide +kernel, by decide +kernel⟩
theorem ok_total {f zZ : Addr} {fd : FuncData} {k : Nat} (F : Fun K "total" "total" sTotal f fd) (c_plus : Cal P w K mg base k "plus" ["a", "b"] (spPlus K)) (m_ZERO : mg "ZERO" = some (.ref zZ)) (hZ : ∀ H, SqT K H zZ [.int 0, .int 1]) : FnOk P w K mg base CX0 (k + 1) f fd ["values"] (spTotal K) := by
  refine ok_P F scTotal (fun _ => rfl) fun cdv A outer s H0 S xs Q E hr hp out => ⟨_, (pss_cons (ps_set (i := 1) scTotal.nd rfl (Or.inl rfl) (pe_glob (v := .ref zZ) (by rfl) m_ZERO rfl))
      (pss_cons (ps_for PassesOwn.never rfl (pi_list (pv 0)) (pg_name (i := 2) scTotal.nd rfl (Or.inl rfl)) (pss_one (ps_set (i := 1) scTotal.nd rfl (Or.inl rfl) (pe_cal c_plus hr (by rfl) (pa_cons (pv 1) (pa_cons (pv 2) pa_nil))))))
      (pss_one (ps_ret (pv 1))))), ?_⟩
  obtain ⟨hz, hl⟩ := hp
  refine go_set (t := tFr K) (x := 0) (ev_k fun H => ⟨zZ, rfl, hZ H⟩) ?_
  refine go_seq (go_for (iv_list (ev_var rfl)) tgt_name (fun k (_ : Unit) => ([], [some ((tLs K (tFr K)).is xs), some ((tFr K).is (rpre xs k)), none])) (fun _ _ => True) () trivial (fun σ H o => o.sb ?_) (fun k _ x f hx _ => ?_) (fun _ _ σ H o => ?_))
  · walk_at "sb"
  · refine go_set1 (ev_call (z := (_, _)) (ea_cons (ev_var rfl) (ea_cons (ev_var rfl) ea_nil)) ?_) fun σ H o => ⟨(), trivial, o.sb ?_⟩
    · have hk : k < xs.length := (List.getElem?_eq_some_iff.mp hx).1
      refine ⟨(rpre_sz hz k (by omega)).mono (by omega), (hz x (List.mem_of_getElem? hx)).mono (by decide)⟩
    · show Sb [_, some ((tFr K).is (rpre xs k + x)), _] [_, some ((tFr K).is (rpre xs (k + 1))), none]
      rw [rpre_succ hx]
      walk_at "sb"
  · exact go_at o (go_end (y := rpre xs xs.length) (ev_var rfl) out (hp := rpre_all xs))
end
end Cs
set_option maxHeartbeats 4000000
namespace Cs
open PySem PySem.Spec PyProof.Rows L2
local macro_rules | `(tactic| walk_at "rd") => `(tactic| (first
  | (refine ⟨_, rfl, ?_⟩)
  | (refine ⟨_, _, rfl, rfl, ?_⟩)
  | (refine .inl ⟨_, rfl, ?_⟩)
  | (refine .inr ⟨_, rfl, ?_⟩)
  | (refine ⟨_, _, _, _, rfl, rfl, SqL.of upd_same, rfl, ?_⟩)
  | (refine ⟨_, _, _, _, rfl, rfl, upd_same, rfl, ?_⟩)
  | (refine ⟨_, ?xs, _, ?v, rfl, rfl, ?h, ?x, ?_⟩; (case h => first | exact SqL.of (by assumption) | exact SqT.of (by assumption) | assumption); (case x => first | rfl | exact atI_nat (j := 0) rfl | exact atI_nat (j := 1) rfl))))
local macro_rules | `(tactic| walk_at "isi") => `(tactic| (first
  | (refine ⟨_, _, _, _, _, rfl, .ty _, .base (.int _), kit_ty kit_it, ?_⟩)
  | (refine ⟨_, _, _, _, _, rfl, .ty _, .base (.int _), kit_ty kit_ib, ?_⟩)
  | (refine ⟨_, _, _, _, _, rfl, .ty _, .base (.int _), kit_ty kit_ii, ?_⟩)
  | (refine ⟨_, _, _, _, _, rfl, .ty _, .base (.bl _), kit_ty kit_bt, ?_⟩)
  | (refine ⟨_, _, _, _, _, rfl, .ty _, .base (.bl _), kit_ty kit_bb, ?_⟩)
  | (refine ⟨_, _, _, _, _, rfl, .ty _, .base (.bl _), kit_ty kit_bi, ?_⟩)))
local macro_rules | `(tactic| walk_at "ev") => `(tactic| (first
  | exact ev_var rfl
  | exact ev_int
  | exact ev_str
  | exact ev_bl
  | exact ev_non
  | (refine ev_add ?_ ?_ <;> walk_at "ev")
  | (refine ev_sub ?_ ?_ <;> walk_at "ev")
  | (refine ev_mul ?_ ?_ ?_ <;> (try walk_at "ev"))
  | (refine ev_neg ?_ <;> walk_at "ev")
  | (refine ev_num ?_ <;> walk_at "ev")
  | (refine ev_den ?_ <;> walk_at "ev")
  | (refine ev_cmp ?_ ?_ <;> walk_at "ev")
  | (refine ev_eqI ?_ ?_ <;> walk_at "ev")
  | (refine ev_eqS ?_ ?_ <;> walk_at "ev")
  | (refine ev_neI ?_ ?_ <;> walk_at "ev")
  | (refine ev_neS ?_ ?_ <;> walk_at "ev")
  | (refine ev_inS ?_ ?_ <;> walk_at "ev")
  | (refine ev_niS ?_ ?_ <;> walk_at "ev")
  | (refine ev_len ?_ <;> walk_at "ev")
  | (refine ev_list ?_ <;> walk_at "ev")
  | (refine ev_listRev ?_ <;> walk_at "ev")
  | (refine ev_int1 ?_ <;> walk_at "ev")))
local macro_rules | `(tactic| walk_at "ea") => `(tactic| (first
  | exact ea_nil
  | (refine ea_cons ?_ ?_ <;> (first | walk_at "ev" | walk_at "ea" | skip))))
local macro_rules | `(tactic| walk_at "sb") => `(tactic| (first | exact True.intro | (refine And.intro rfl ?_; walk_at "sb")))
section
variable {P : Program} {w : World} {K : PySem.W.Frag} {mg : Str → Option Value} {base : Heap}
def bdF (K : PySem.W.Frag) (b : Bd) : List (Str × SF) := [("name", tSt.is b.name), ("issuer", tSt.is b.issuer), ("units", tInt.is b.units), ("face", (tFr K).is b.face), ("cross", (tOpt (tFr K)).is b.cross)]
abbrev tBd (K : PySem.W.Frag) (CB : Addr) : Ty Bd := tOb CB (bdF K)
/-- what the written part says of the class of bonds -/
structure BondC (K : PySem.W.Frag) (CB : Addr) : Prop where
  cl : Cls K CB
  n0 : NoAttr K CB "name"
  n1 : NoAttr K CB "issuer"
  n2 : NoAttr K CB "units"
  n3 : NoAttr K CB "face"
  n4 : NoAttr K CB "cross"
  n5 : NoAttr K CB "first_day"
  n6 : NoAttr K CB "last_day"
  n7 : NoAttr K CB "months"
  n8 : NoAttr K CB "count"
  n9 : NoAttr K CB "adjust"
  n10 : NoAttr K CB "record"
  n11 : NoAttr K CB "rank"
  n12 : NoAttr K CB "lets"
  n13 : NoAttr K CB "coupon"
  n14 : NoAttr K CB "promises"
  n15 : NoAttr K CB "calls"
abbrev spSize (K : PySem.W.Frag) (CB : Addr) : Sp := spP (fun b : Bd => [(tBd K CB).is b]) (tFr K) BdOk sizeB
abbrev spBound (K : PySem.W.Frag) (CB : Addr) : Sp := spP (fun x : Bd × List Bd => [(tBd K CB).is x.1, (tLs K (tBd K CB)).is x.2]) tBl (fun x => BdOk x.1 ∧ (∀ b ∈ x.2, BdOk b) ∧ x.2.length ≤ 20) (fun x => boundB x.1 x.2)
abbrev sSize : Stmt := topS 14
theorem scSize : FnScope ["bond"] ["bond"] (defScope sSize) := ⟨rfl, rfl, rfl, by decide +kernel, rfl, by decide +kernel, by decide +kernel⟩
theorem ok_size {f CB : Addr} {fd : FuncData} {k : Nat} (F : Fun K "size" "size" sSize f fd) (BC : BondC K CB) (c_fraction1 : CalD P w K mg base k "fraction" ["p", "q"] [.int 1] spFrac) (c_times : Cal P w K mg base k "times" ["a", "b"] (spTimes K)) : FnOk P w K mg base CX0 (k + 1) f fd ["bond"] (spSize K CB) := by
  refine ok_P F scSize (fun _ => rfl) fun cdv A outer s H0 S b Q E hr hp out => ⟨_, (pss_one (ps_ret (pe_cal c_times hr (by rfl) (pa_cons (pe_calD c_fraction1 hr (by rfl) (pa_cons (pe_fld (pv 0) rfl) pa_nil)) (pa_cons (pe_fld (pv 0) rfl) pa_nil))))), ?_⟩
  refine go_end (y := sizeB b) (ev_is (ev_call (z := (_, _)) (ea_cons (ev_frc1 (ev_fld 2 (ev_var rfl) BC.cl BC.n2)) (ea_cons (ev_fld 3 (ev_var rfl) BC.cl BC.n3) ea_nil)) ?_) ?_) out
  · exact ⟨(Sz.int (k := 10) (by have := hp.u0; have := hp.u1; show b.units.natAbs < 1024; omega) (by decide)).mono (by decide), hp.fs.mono (by decide)⟩
  · rfl
abbrev sIsBound : Stmt := topS 19
theorem scIsBound : FnScope ["bond", "others", "other"] ["bond", "others"] (defScope sIsBound) := ⟨rfl, rfl, rfl, by decide +kernel, rfl, by decide +kernel, by decide +kernel⟩
theorem ok_is_bound {f CB : Addr} {fd : FuncData} {k : Nat} (F : Fun K "_is_bound" "_is_bound" sIsBound f fd) (BC : BondC K CB) (c_size : Cal P w K mg base k "size" ["bond"] (spSize K CB)) (c_total : Cal P w K mg base k "total" ["values"] (spTotal K)) (c_order : Cal P w K mg base k "order" ["a", "b"] (spOrder K)) : FnOk P w K mg base CX0 (k + 1) f fd ["bond", "others"] (spBound K CB) := by
  refine ok_P F scIsBound (fun _ => rfl) fun cdv A outer s H0 S x Q E hr hp out => ⟨_, (pss_cons (ps_if (pt_cmpR op_isN (pe_fld (pv 0) rfl) pe_non (nomark _)) (pss_one (ps_ret pe_bl)) pss_nil)
      (pss_one (ps_ret (pe_cmpR op_gt (pe_cal c_order hr (by rfl) (pa_cons (pe_cal c_total hr (by rfl) (pa_cons (pe_lc (own := [("other", 2)]) (g := gName 2)  rfl scIsBound.nd (pi_list (pv 1)) (blkOk_by (own := [("other", 2)]) (N := ["bond", "others", "other"]) (sc := defScope sIsBound) (by decide +kernel)) (fun _ _ _ _ _ => (pg_name (i := 2) scIsBound.nd rfl (Or.inl rfl))) (fun _ _ _ _ _ => (pts_one (pt_cmpR op_eq (pe_fldK (K := K) rfl (pv 2) rfl) (pe_fldK (K := K) rfl (pv 0) rfl) (nomark _)))) (fun _ _ _ _ _ => (pe_cal c_size hr (by rfl) (pa_cons (pv 2) pa_nil)))) pa_nil)) (pa_cons (pe_fld (pv 0) rfl) pa_nil))) pe_int (nomark _))))), ?_⟩
  obtain ⟨⟨nm, iss, un, fc, cr⟩, os⟩ := x
  obtain ⟨hb, ho, hl⟩ := hp
  have hl : os.length ≤ 20 := hl
  have sub : ∀ r ∈ (os.filter fun o => decide (o.issuer = iss)).map sizeB, Sz 20 r := fun r m => by
    obtain ⟨o, m1, rfl⟩ := List.mem_map.mp m
    exact sizeB_sz (ho o (List.mem_filter.mp m1).1)
  have len : ((os.filter fun o => decide (o.issuer = iss)).map sizeB).length ≤ 20 := by
    rw [List.length_map]
    exact Nat.le_trans (List.length_filter_le ..) hl
  cases cr with
  | none => exact go_ifr (et_isN (ev_fld 4 (ev_var rfl) BC.cl BC.n4)) (fun _ => go_end (y := false) ev_bl out) (fun h => by cases h)
  | some c =>
    refine go_ifr (et_isN (ev_fld 4 (ev_var rfl) BC.cl BC.n4)) (fun h => by cases h) (fun _ => ?_)
    refine go_end (y := boundB ⟨nm, iss, un, fc, some c⟩ os) (ev_is (ev_cmp (ev_call (z := (_, _)) (ea_cons (ev_call (z := _) (ea_cons (ev_lcf (K := K) (iv_list (ev_var rfl)) tgt_name (by simp) ?_ (fun _ _ _ x _ xm => (et_of (ev_eqS (ev_fld 1 (ev_var rfl) BC.cl BC.n1) (ev_fld 1 (ev_var rfl) BC.cl BC.n1)))) (fun _ _ _ x _ xm px => (ev_call (z := _) (ea_cons (ev_var rfl) ea_nil) ?_))) ea_nil) ?_) (ea_cons (ev_some (ev_fld 4 (ev_var rfl) BC.cl BC.n4)) ea_nil)) ?_) ev_int) ?_) out
    · show os.length < sizeLine
      rw [sizeLine_eq]
      omega
    · exact ho x xm
    · exact ⟨sub, Nat.le_trans len (by decide)⟩
    · refine ⟨?_, (hb.cs c rfl).mono (by decide)⟩
      exact (rsum_sz sub).mono (by omega)
    · rfl
abbrev sCkN : Stmt := topS 20
theorem scCkN : FnScope ["bonds", "names", "known", "name", "bond"] ["bonds", "names"] (defScope sCkN) := ⟨rfl, rfl, rfl, by decide +kernel, rfl, by decide +kernel, by decide +kernel⟩
abbrev spCkN (K : PySem.W.Frag) (CB : Addr) : Sp := spP (fun x : List Bd × List Str => [(tLs K (tBd K CB)).is x.1, (tLs K tSt).is x.2]) tNn (fun x => (∀ z ∈ x.2, z ∈ x.1.map Bd.name) ∧ x.1.length ≤ 20) (fun _ => ())
theorem go_fall {W : Wd} {C : List RS} {S : List Addr} {P : Unit → Prop} {Q : VK} {σ : L2.St} {H : Hp} (o : Ok W σ H) (out : Rt C S W.H0 tNn P Q) (hp : P ()) (hM : W.M = fps C := by rfl) (hC : ∀ c ∈ C, c ∈ W.L := by first | (intro c z; cases z) | (intro c z; exact z) | simp) (hS : ∀ a, a ∈ S → a ∈ W.S := by first | (intro a z; exact z) | (intro a z; exact List.mem_cons_of_mem _ z) | simp) : Q .non H :=
  out .non () H hp (by rw [← hM]; exact o.bt) (fun a m => o.al a (o.ms a (by rw [hM]; exact m))) (o.rsAt hC hS) rfl
theorem ok_ckn {f CB : Addr} {fd : FuncData} {k : Nat} (F : Fun K "_check_names" "_check_names" sCkN f fd) (BC : BondC K CB) : FnOk P w K mg base CX0 (k + 1) f fd ["bonds", "names"] (spCkN K CB) := by
  refine ok_P F scCkN (fun _ => rfl) fun cdv A outer s H0 S x Q E hr hp out => ?_
  have hu := hu_of hr
  refine ⟨_, (pss_cons (ps_setDc (i := 2) (own := [("bond", 4)]) (g := gName 4) (tt := tYes) rfl scCkN.nd rfl rfl (sw_trueD rfl rfl rfl (by decide +kernel)) (pi_list (pv 0)) (blkOk_by (own := [("bond", 4)]) (N := ["bonds", "names", "known", "name", "bond"]) (sc := defScope sCkN) (by decide +kernel)) (fun _ _ _ _ _ => (pg_name (i := 4) scCkN.nd rfl (Or.inl rfl))) (fun _ _ _ _ _ => pts_nil) (fun _ _ _ _ _ => (pe_fldK (K := K) rfl (pv 4) rfl)) (fun _ _ _ _ _ => pe_bl))
      (pss_one (ps_for PassesOwn.never rfl (pi_list (pv 1)) (pg_name (i := 3) scCkN.nd rfl (Or.inl rfl)) (pss_one (ps_if (pt_cmp (pc_dnotin hu (pv 3) (pv 2))) (pss_one ps_never) pss_nil))))), ?_⟩
  obtain ⟨bs, ns⟩ := x
  obtain ⟨hn, hl⟩ := hp
  have hl : bs.length ≤ 20 := hl
  refine go_dc (f := Bd.name) (iv_list (ev_var rfl)) tgt_name (by simp) (by rw [sizeLine_eq]; omega) (fun _ _ _ x _ xm => (ev_fld 0 (ev_var rfl) BC.cl BC.n0)) (fun _ _ _ x _ xm => ⟨true, ev_bl⟩) fun p => ?_
  refine go_for (iv_list (ev_var rfl)) tgt_name (fun k (_ : Unit) => ([cell p (cKeys (bs.map Bd.name))], [some ((tLs K (tBd K CB)).is bs), some ((tLs K tSt).is ns), some (tRf.is p), none, none])) (fun _ _ => True) () trivial (fun σ H o => o.sb (by walk_at "sb")) (fun k _ x f hx _ => ?_) (fun _ _ σ H o => ?_)
  · have hx : x ∈ bs.map Bd.name := hn x (List.mem_of_getElem? hx)
    refine go_if (et_niK rfl (List.mem_cons_self ..) (ev_var rfl)) (fun h => ?_) (fun _ => go_next fun σ H o => ⟨(), trivial, o.sb (by walk_at "sb")⟩)
    rw [decide_eq_true hx] at h
    cases h
  · exact go_fall o out rfl
/-! ### the bonds in default -/
structure DfArgs where
  bs : List Bd
  ow : List Str
  ex : List Str
structure DfOk (x : DfArgs) : Prop where
  ok : ∀ b ∈ x.bs, BdOk b
  lb : x.bs.length ≤ 20
  lo : x.ow.length ≤ 100
  le : x.ex.length ≤ 100
  io : ∀ z ∈ x.ow, z ∈ x.bs.map Bd.name
  ie : ∀ z ∈ x.ex, z ∈ x.bs.map Bd.name
abbrev spDefaults (K : PySem.W.Frag) (CB : Addr) : Sp := spN (fun _ => []) (fun x : DfArgs => [(tLs K (tBd K CB)).is x.bs, (tLs K tSt).is x.ow, (tLT K tSt).is x.ex]) (tLs K tSt) DfOk (fun x ys => ∃ ks, Least x.bs x.ow x.ex ks ∧ ys = (inN ks x.bs).map Bd.name)
abbrev sDfl : Stmt := topS 15
theorem scDfl : FnScope ["bonds", "own", "exempt", "name", "fallen", "lost", "safe", "bound", "bond"] ["bonds", "own", "exempt"] (defScope sDfl) := ⟨rfl, rfl, rfl, by decide +kernel, rfl, by decide +kernel, by decide +kernel⟩
theorem ok_defaults {f CB : Addr} {fd : FuncData} {k : Nat} {dvs : List V} (F : FunD K "defaults" "defaults" (defArgs sDfl) (defBody sDfl) (defScope sDfl) dvs [] f fd) (BC : BondC K CB) (c_check_names : Cal P w K mg base k "_check_names" ["bonds", "names"] (spCkN K CB)) (c_is_bound : Cal P w K mg base k "_is_bound" ["bond", "others"] (spBound K CB)) : FnOk P w K mg base CX0 (k + 1) f fd ["bonds", "own", "exempt"] (spDefaults K CB) := by
  refine ok_ND F scDfl (fun _ => rfl) fun cdv A outer s H0 S x Q E hr hp out => ?_
  have hu := hu_of hr
  refine ⟨_, (pss_cons (ps_expr (pe_cal c_check_names hr (by rfl) (pa_cons (pv 0) (pa_cons (pe_lst (StX.pa_star (pv 1) (StX.pa_star (pv 2) pa_nil))) pa_nil))))
      (pss_cons (ps_set (i := 4) scDfl.nd rfl (Or.inr rfl) (pe_dc (own := [("name", 3)]) (g := gName 3) (tt := tYes) rfl scDfl.nd (pi_list (pv 1)) (blkOk_by (own := [("name", 3)]) (N := ["bonds", "own", "exempt", "name", "fallen", "lost", "safe", "bound", "bond"]) (sc := defScope sDfl) (by decide +kernel)) (fun _ _ _ _ _ => (pg_name (i := 3) scDfl.nd rfl (Or.inl rfl))) (fun _ _ _ _ _ => pts_nil) (fun _ _ _ _ _ => (pv 3)) (fun _ _ _ _ _ => pe_bl)))
      (pss_one (ps_while PassesOwn.never (pt_val pe_bl) (pss_cons (ps_set (i := 5) scDfl.nd rfl (Or.inr rfl) (pe_lc (own := [("bond", 8)]) (g := gName 8)  rfl scDfl.nd (pi_list (pv 0)) (blkOk_by (own := [("bond", 8)]) (N := ["bonds", "own", "exempt", "name", "fallen", "lost", "safe", "bound", "bond"]) (sc := defScope sDfl) (by decide +kernel)) (fun _ _ _ _ _ => (pg_name (i := 8) scDfl.nd rfl (Or.inl rfl))) (fun _ _ _ _ _ => (pts_one (pt_cmp (pc_din hu (pe_fldK (K := K) rfl (pv 8) rfl) (pv 4))))) (fun _ _ _ _ _ => (pv 8))))
      (pss_cons (ps_setLc (i := 6) (own := [("bond", 8)]) (g := gName 8)  rfl scDfl.nd rfl rfl (sw_true rfl rfl rfl (by decide +kernel)) (pi_list (pv 0)) (blkOk_by (own := [("bond", 8)]) (N := ["bonds", "own", "exempt", "name", "fallen", "lost", "safe", "bound", "bond"]) (sc := defScope sDfl) (by decide +kernel)) (fun _ _ _ _ _ => (pg_name (i := 8) scDfl.nd rfl (Or.inl rfl))) (fun _ _ _ _ _ => (pts_one (PW.pt (pw_and (pt_cmp (pc_dnotin hu (pe_fldK (K := K) rfl (pv 8) rfl) (pv 4))) (pw_and1 (pt_cmpR (op_niK (K := K) rfl) (pe_fldK (K := K) rfl (pv 8) rfl) (pv 2) (by rfl))))))) (fun _ _ _ _ _ => (pv 8)))
      (pss_cons (ps_setLc (i := 7) (own := [("bond", 8)]) (g := gName 8)  rfl scDfl.nd rfl rfl (sw_true rfl rfl rfl (by decide +kernel)) (pi_list (pv 6)) (blkOk_by (own := [("bond", 8)]) (N := ["bonds", "own", "exempt", "name", "fallen", "lost", "safe", "bound", "bond"]) (sc := defScope sDfl) (by decide +kernel)) (fun _ _ _ _ _ => (pg_name (i := 8) scDfl.nd rfl (Or.inl rfl))) (fun _ _ _ _ _ => (pts_one (pt_val (pe_cal c_is_bound hr (by rfl) (pa_cons (pv 8) (pa_cons (pv 5) pa_nil)))))) (fun _ _ _ _ _ => (pe_fldK (K := K) rfl (pv 8) rfl)))
      (pss_cons (ps_if (pt_not (pt_truth (pv 7) (fun _ => rfl))) (pss_one (ps_ret (pe_lc (own := [("bond", 8)]) (g := gName 8) (tt := tYes) rfl scDfl.nd (pi_list (pv 5)) (blkOk_by (own := [("bond", 8)]) (N := ["bonds", "own", "exempt", "name", "fallen", "lost", "safe", "bound", "bond"]) (sc := defScope sDfl) (by decide +kernel)) (fun _ _ _ _ _ => (pg_name (i := 8) scDfl.nd rfl (Or.inl rfl))) (fun _ _ _ _ _ => pts_nil) (fun _ _ _ _ _ => (pe_fldK (K := K) rfl (pv 8) rfl))))) pss_nil)
      (pss_one (ps_for PassesOwn.never rfl (pi_list (pv 7)) (pg_name (i := 3) scDfl.nd rfl (Or.inl rfl)) (pss_one (ps_dput hu (pv 4) (pv 3) pe_bl rfl)))))))))))), ?_⟩
  obtain ⟨bs, ow, ex⟩ := x
  obtain ⟨ok, lb, lo, le, io, ie⟩ := hp
  have ok : ∀ b ∈ bs, BdOk b := ok
  have lb : bs.length ≤ 20 := lb
  have lo : ow.length ≤ 100 := lo
  have le : ex.length ≤ 100 := le
  have sz : ∀ n, n ≤ 10000 → n < sizeLine := fun n h => by rw [sizeLine_eq]; omega
  refine go_drop (ev_call (z := (_, _)) (ea_cons (ev_var rfl) (ea_cons (ev_lst (K := K) (el_star (ev_var rfl) (el_starT (ev_var rfl) el_nil)) ?_) ea_nil)) ?_) ?_
  · show (ow ++ (ex ++ [])).length ≤ sizeLine
    rw [List.length_append, List.length_append, sizeLine_eq]
    show ow.length + (ex.length + 0) ≤ 16777216
    omega
  · refine ⟨fun z m => ?_, lb⟩
    rcases List.mem_append.mp (show z ∈ ow ++ (ex ++ []) from m) with m | m
    · exact io z m
    · exact ie z (by simpa using m)
  refine go_dc (f := fun z : Str => z) (iv_list (ev_var rfl)) tgt_name (by simp) (sz _ (by show ow.length ≤ 10000; omega)) (fun _ _ _ x _ xm => (ev_var rfl)) (fun _ _ _ x _ xm => ⟨true, ev_bl⟩) fun p => ?_
  refine go_while (J := fun ks => ⟨H0, [], p :: S, [cell p (cKeys ks)], [], [some ((tLs K (tBd K CB)).is bs), some ((tLs K tSt).is ow), some ((tLT K tSt).is ex), none, some (tRf.is p), none, none, none, none]⟩)
    (fun ks => (∀ z, z ∈ ow → z ∈ ks) ∧ (∀ T, (∀ z, z ∈ ow → z ∈ T) → Closed bs ex T → ∀ z, z ∈ ks → z ∈ T) ∧ ks.length + 20 * left bs ks ≤ 500) (fun ks => left bs ks) ow ⟨fun z m => m, fun T h _ z m => h z m, by have := left_le bs ow; omega⟩ (fun σ H o => ?_) (fun ks hk => ⟨true, et_B ev_bl, fun _ => ?_, fun h => by cases h⟩)
  · have e : ow.map (fun z : Str => z) = ow := List.map_id' ow
    have o2 := o.sb (F' := []) (G' := [some ((tLs K (tBd K CB)).is bs), some ((tLs K tSt).is ow), some ((tLT K tSt).is ex), none, some (tRf.is p), none, none, none, none]) (by walk_at "sb")
    show Ok ⟨H0, [], p :: S, [cell p (cKeys ow)], [], _⟩ σ H
    rw [show cKeys ow = cKeys (ow.map fun z : Str => z) from by rw [e]]
    exact o2
  obtain ⟨h1, h2, h3⟩ := hk
  let safe := bs.filter fun b => !decide (b.name ∈ ks) && !decide (b.name ∈ ex)
  have ls : safe.length ≤ 20 := Nat.le_trans (List.length_filter_le ..) lb
  have ll : (inN ks bs).length ≤ 20 := Nat.le_trans (List.length_filter_le ..) lb
  have lbd : (bnd bs ex ks).length ≤ 20 := Nat.le_trans (bnd_len bs ex ks) lb
  refine go_set (x := inN ks bs) (ev_is (ev_lcf (K := K) (iv_list (ev_var rfl)) tgt_name (by simp) ?_ (fun _ _ _ x _ xm => (et_inK rfl (List.mem_cons_of_mem _ (List.mem_cons_self ..)) (ev_fld 0 (ev_var rfl) BC.cl BC.n0))) (fun _ _ _ x _ xm px => (ev_var rfl))) ?_) ?_
  · exact sz _ (by show bs.length ≤ 10000; omega)
  · exact List.map_id' _
  refine go_set (x := safe) (ev_is (ev_lcf (K := K) (iv_list (ev_var rfl)) tgt_name (by simp) ?_ (fun _ _ _ x _ xm => (et_and (et_niK rfl (List.mem_cons_of_mem _ (List.mem_cons_self ..)) (ev_fld 0 (ev_var rfl) BC.cl BC.n0)) (fun qa => (et_of (ev_niT (ev_fld 0 (ev_var rfl) BC.cl BC.n0) (ev_var rfl)))))) (fun _ _ _ x _ xm px => (ev_var rfl))) ?_) ?_
  · exact sz _ (by show bs.length ≤ 10000; omega)
  · exact List.map_id' _
  refine go_set (x := bnd bs ex ks) (ev_is (ev_lcf (K := K) (iv_list (ev_var rfl)) tgt_name (by simp) ?_ (fun _ _ _ x _ xm => (et_B (ev_call (z := (_, _)) (ea_cons (ev_var rfl) (ea_cons (ev_var rfl) ea_nil)) ?_))) (fun _ _ _ x _ xm px => (ev_fld 0 (ev_var rfl) BC.cl BC.n0))) ?_) ?_
  · exact sz _ (by omega)
  · exact ⟨ok x (List.mem_filter.mp xm).1, fun b m => ok b (List.mem_filter.mp m).1, ll⟩
  · rfl
  refine go_ifr (et_not (et_tru (ev_var rfl))) (fun h => ?_) (fun h => ?_)
  · have h0 : bnd bs ex ks = [] := by simpa using h
    refine go_end (y := (inN ks bs).map Bd.name) (ev_lcm (K := K) (iv_list (ev_var rfl)) tgt_name (by simp) ?_ (fun _ _ _ x _ xm => (ev_fld 0 (ev_var rfl) BC.cl BC.n0))) out (hp := ⟨ks, ⟨h1, bnd_closed h0, h2⟩, rfl⟩)
    exact sz _ (by omega)
  · have h0 : bnd bs ex ks ≠ [] := by simpa using h
    refine go_for (iv_list (ev_var rfl)) tgt_name (fun k (_ : Unit) => ([cell p (cKeys (ks ++ (bnd bs ex ks).take k))], [some ((tLs K (tBd K CB)).is bs), some ((tLs K tSt).is ow), some ((tLT K tSt).is ex), none, some (tRf.is p), none, none, none, none])) (fun _ _ => True) () trivial (fun σ H o => ?_) (fun k _ x f hx _ => ?_) (fun _ _ σ H o => ?_)
    · have o2 := o.sb (F' := []) (G' := [some ((tLs K (tBd K CB)).is bs), some ((tLs K tSt).is ow), some ((tLT K tSt).is ex), none, some (tRf.is p), none, none, none, none]) (by walk_at "sb")
      show Ok ⟨H0, [], p :: S, [cell p (cKeys (ks ++ []))], [], _⟩ σ H
      rw [List.append_nil]
      exact o2
    · refine go_putK (z := x) rfl (List.Perm.refl _) (ev_var rfl) ev_bl ?_ fun σ H o => ⟨(), trivial, ?_⟩
      · refine sz _ ?_
        rw [List.length_append, List.length_take]
        omega
      · have o2 := o.sb (F' := f :: []) (G' := [some ((tLs K (tBd K CB)).is bs), some ((tLs K tSt).is ow), some ((tLT K tSt).is ex), none, some (tRf.is p), none, none, none, none]) (by walk_at "sb")
        show Ok ⟨H0, [], p :: S, [cell p (cKeys (ks ++ (bnd bs ex ks).take (k + 1)))], f :: [], _⟩ σ H
        rw [take_snoc hx, ← List.append_assoc]
        exact o2
    · have o2 : Ok ⟨H0, [], p :: S, [cell p (cKeys (ks ++ (bnd bs ex ks).take (bnd bs ex ks).length))], [], [some ((tLs K (tBd K CB)).is bs), some ((tLs K tSt).is ow), some ((tLT K tSt).is ex), none, some (tRf.is p), none, none, none, none]⟩ σ H := o
      rw [List.take_length] at o2
      have lt := left_lt (bs := bs) h0
      refine ⟨ks ++ bnd bs ex ks, ⟨fun z m => List.mem_append_left _ (h1 z m), fun T a c z m => ?_, ?_⟩, lt, o2⟩
      · rcases List.mem_append.mp m with m | m
        · exact h2 T a c z m
        · exact bnd_least ok (h2 T a c) c z m
      · rw [List.length_append]
        omega
end
end Cs
set_option maxHeartbeats 4000000
namespace Cs
open PySem PySem.Spec PyProof.Rows L2
local macro_rules | `(tactic| walk_at "rd") => `(tactic| (first
  | (refine ⟨_, rfl, ?_⟩)
  | (refine ⟨_, _, rfl, rfl, ?_⟩)
  | (refine .inl ⟨_, rfl, ?_⟩)
  | (refine .inr ⟨_, rfl, ?_⟩)
  | (refine ⟨_, _, _, _, rfl, rfl, SqL.of upd_same, rfl, ?_⟩)
  | (refine ⟨_, _, _, _, rfl, rfl, upd_same, rfl, ?_⟩)
  | (refine ⟨_, ?xs, _, ?v, rfl, rfl, ?h, ?x, ?_⟩; (case h => first | exact SqL.of (by assumption) | exact SqT.of (by assumption) | assumption); (case x => first | rfl | exact atI_nat (j := 0) rfl | exact atI_nat (j := 1) rfl))))
local macro_rules | `(tactic| walk_at "isi") => `(tactic| (first
  | (refine ⟨_, _, _, _, _, rfl, .ty _, .base (.int _), kit_ty kit_it, ?_⟩)
  | (refine ⟨_, _, _, _, _, rfl, .ty _, .base (.int _), kit_ty kit_ib, ?_⟩)
  | (refine ⟨_, _, _, _, _, rfl, .ty _, .base (.int _), kit_ty kit_ii, ?_⟩)
  | (refine ⟨_, _, _, _, _, rfl, .ty _, .base (.bl _), kit_ty kit_bt, ?_⟩)
  | (refine ⟨_, _, _, _, _, rfl, .ty _, .base (.bl _), kit_ty kit_bb, ?_⟩)
  | (refine ⟨_, _, _, _, _, rfl, .ty _, .base (.bl _), kit_ty kit_bi, ?_⟩)))
local macro_rules | `(tactic| walk_at "ev") => `(tactic| (first
  | exact ev_var rfl
  | exact ev_int
  | exact ev_str
  | exact ev_bl
  | exact ev_non
  | (refine ev_add ?_ ?_ <;> walk_at "ev")
  | (refine ev_sub ?_ ?_ <;> walk_at "ev")
  | (refine ev_mul ?_ ?_ ?_ <;> (try walk_at "ev"))
  | (refine ev_neg ?_ <;> walk_at "ev")
  | (refine ev_num ?_ <;> walk_at "ev")
  | (refine ev_den ?_ <;> walk_at "ev")
  | (refine ev_cmp ?_ ?_ <;> walk_at "ev")
  | (refine ev_eqI ?_ ?_ <;> walk_at "ev")
  | (refine ev_eqS ?_ ?_ <;> walk_at "ev")
  | (refine ev_neI ?_ ?_ <;> walk_at "ev")
  | (refine ev_neS ?_ ?_ <;> walk_at "ev")
  | (refine ev_inS ?_ ?_ <;> walk_at "ev")
  | (refine ev_niS ?_ ?_ <;> walk_at "ev")
  | (refine ev_len ?_ <;> walk_at "ev")
  | (refine ev_list ?_ <;> walk_at "ev")
  | (refine ev_listRev ?_ <;> walk_at "ev")
  | (refine ev_int1 ?_ <;> walk_at "ev")))
local macro_rules | `(tactic| walk_at "ea") => `(tactic| (first
  | exact ea_nil
  | (refine ea_cons ?_ ?_ <;> (first | walk_at "ev" | walk_at "ea" | skip))))
local macro_rules | `(tactic| walk_at "sb") => `(tactic| (first | exact True.intro | (refine And.intro rfl ?_; walk_at "sb")))
section
variable {P : Program} {w : World} {K : PySem.W.Frag} {mg : Str → Option Value} {base : Heap}
abbrev sNameOf : Stmt := topS 18
theorem scNameOf : FnScope ["bond"] ["bond"] (defScope sNameOf) := ⟨rfl, rfl, rfl, by decide +kernel, rfl, by decide +kernel, by decide +kernel⟩
theorem bNameOf : defBody sNameOf = [.Return (some (.Attribute (.Name "bond" ⟨71, 11, 71, 15⟩) "name" ⟨71, 11, 71, 20⟩)) ⟨71, 4, 71, 20⟩] := rfl
structure LrArgs where
  ms : List Bd
  ow : List Str
  rows : List (List Str)
structure LrOk (x : LrArgs) : Prop where
  ok : ∀ b ∈ x.ms, BdOk b
  lm : x.ms.length ≤ 6
  lo : x.ow.length ≤ 100
  lr : x.rows.length ≤ 50000
  l6 : ∀ r ∈ x.rows, r.length ≤ 6
abbrev spLonger (K : PySem.W.Frag) (CB : Addr) : Sp := spN (fun _ => []) (fun x : LrArgs => [(tLs K (tBd K CB)).is x.ms, (tLs K tSt).is x.ow, (tLs K (tLs K tSt)).is x.rows]) (tLs K (tLs K tSt)) LrOk (fun x ys => Dd (cand x.ms x.ow x.rows) ys)
abbrev sLonger : Stmt := topS 17
theorem scLonger : FnScope ["mates", "own", "rows", "longer", "row", "bond", "before"] ["mates", "own", "rows"] (defScope sLonger) := ⟨rfl, rfl, rfl, by decide +kernel, rfl, by decide +kernel, by decide +kernel⟩
theorem ok_longer {f CB : Addr} {fd : FuncData} {k : Nat} (F : Fun K "_longer_rows" "_longer_rows" sLonger f fd) (BC : BondC K CB) (c_is_bound : Cal P w K mg base k "_is_bound" ["bond", "others"] (spBound K CB)) (z_list : mg "list" = none) (z_tuple : mg "tuple" = none) (z_sorted : mg "sorted" = none) : FnOk P w K mg base CX0 (k + 1) f fd ["mates", "own", "rows"] (spLonger K CB) := by
  refine ok_N F scLonger (fun _ => rfl) fun cdv A outer s H0 S x Q E hr hp out => ?_
  have hu := hu_of hr
  refine ⟨_, (pss_cons (ps_set (i := 3) scLonger.nd rfl (Or.inl rfl) pe_dnewT)
      (pss_cons (ps_for PassesOwn.never rfl (pi_list (pv 2)) (pg_name (i := 4) scLonger.nd rfl (Or.inr rfl)) (pss_cons (ps_setLc (i := 6) (own := [("bond", 5)]) (g := gName 5)  rfl scLonger.nd rfl rfl (sw_true rfl rfl rfl (by decide +kernel)) (pi_list (pv 0)) (blkOk_by (own := [("bond", 5)]) (N := ["mates", "own", "rows", "longer", "row", "bond", "before"]) (sc := defScope sLonger) (by decide +kernel)) (fun _ _ _ _ _ => (pg_name (i := 5) scLonger.nd rfl (Or.inl rfl))) (fun _ _ _ _ _ => (pts_one (pt_cmpR (op_inK (K := K) rfl) (pe_fldK (K := K) rfl (pv 5) rfl) (pv 4) (by rfl)))) (fun _ _ _ _ _ => (pv 5)))
      (pss_one (ps_for PassesOwn.never rfl (pi_list (pv 0)) (pg_name (i := 5) scLonger.nd rfl (Or.inl rfl)) (pss_one (ps_if (PW.pt (pw_and (pt_cmpR op_notIn_seq (pe_fld (pv 5) rfl) (pv 4) (by rfl)) (pw_and1 (PW.pt (pw_or (pt_cmpR op_in_seq (pe_fld (pv 5) rfl) (pv 1) (by rfl)) (pw_or1 (pt_val (pe_cal c_is_bound hr (by rfl) (pa_cons (pv 5) (pa_cons (pv 6) pa_nil)))))))))) (pss_one (ps_expr (pe_dsetdT hu (pv 3) (pe_tupleOf (by rfl) z_tuple (pe_callB cr_sortedS (by rfl) z_sorted (by decide +kernel) (pa_cons (pe_lst (StX.pa_star (pv 4) (pa_cons (pe_fld (pv 5) rfl) pa_nil))) pa_nil))) (pe_lst (StX.pa_star (pv 4) (pa_cons (pe_fld (pv 5) rfl) pa_nil))) ⟨rfl, rfl, rfl, rfl⟩))) pss_nil))))))
      (pss_one (ps_ret (pe_listValsT rfl (by rfl) z_list (pv 3)))))), ?_⟩
  obtain ⟨ms, ow, rows⟩ := x
  obtain ⟨ok, lm, lo, lr, l6⟩ := hp
  have ok : ∀ b ∈ ms, BdOk b := ok
  have lm : ms.length ≤ 6 := lm
  have lr : rows.length ≤ 50000 := lr
  have l6 : ∀ r ∈ rows, r.length ≤ 6 := l6
  have sz : ∀ n, n ≤ 1000000 → n < sizeLine := fun n h => by rw [sizeLine_eq]; omega
  refine go_newMT (tLs K tSt) fun p np => ?_
  refine go_seq (go_for (iv_list (ev_var rfl)) tgt_name (fun k (c : List (TagT (List Str))) => ([cell p (cMapT (tLs K tSt) c)], [some ((tLs K (tBd K CB)).is ms), some ((tLs K tSt).is ow), some ((tLs K (tLs K tSt)).is rows), some (tRf.is p), none, none, none])) (fun k c => Dd (cand ms ow (rows.take k)) (c.map fun m => m.2.2) ∧ ∀ m ∈ c, m.1.Perm m.2.2) [] ⟨.nil, fun m mm => nomatch mm⟩ (fun σ H o => o.sb (by walk_at "sb")) (fun k c row f hx hc => ?_) (fun c hc σ H o => ?_))
  · have mrow := List.mem_of_getElem? hx
    have hk : k < rows.length := (List.getElem?_eq_some_iff.mp hx).1
    have lrow := l6 row mrow
    refine go_set (x := beforeR ms row) (ev_is (ev_lcf (K := K) (iv_list (ev_var rfl)) tgt_name (by simp) ?_ (fun _ _ _ x _ xm => (et_of (ev_inS (ev_fld 0 (ev_var rfl) BC.cl BC.n0) (ev_var rfl)))) (fun _ _ _ x _ xm px => (ev_var rfl))) ?_) ?_
    · exact sz _ (by omega)
    · exact List.map_id' _
    refine go_for (iv_list (ev_var rfl)) tgt_name (fun j (c : List (TagT (List Str))) => ([cell p (cMapT (tLs K tSt) c)], [some ((tLs K (tBd K CB)).is ms), some ((tLs K tSt).is ow), some ((tLs K (tLs K tSt)).is rows), some (tRf.is p), some ((tLs K tSt).is row), none, some ((tLs K (tBd K CB)).is (beforeR ms row))])) (fun j c => Dd (cand ms ow (rows.take k) ++ folP ms ow row j) (c.map fun m => m.2.2) ∧ ∀ m ∈ c, m.1.Perm m.2.2) c ⟨by rw [folP_zero, List.append_nil]; exact hc.1, hc.2⟩ (fun σ H o => o.sb (by walk_at "sb")) (fun j c b f2 hb hc => ?_) (fun c hc σ H o => ?_)
    · obtain ⟨h1, h2⟩ := hc
      have lc : c.length ≤ 1000000 - 1 := by
        have e1 := h1.sub.length_le
        rw [List.length_map, List.length_append] at e1
        have e2 := cand_len ms ow (rows.take k)
        have e3 := folP_len ms ow row j
        have e4 : (rows.take k).length * ms.length ≤ 50000 * 6 := Nat.mul_le_mul (by rw [List.length_take]; omega) lm
        omega
      refine go_if (et_and (et_of (ev_niS (ev_fld 0 (ev_var rfl) BC.cl BC.n0) (ev_var rfl))) (fun qa => (et_or (et_of (ev_inS (ev_fld 0 (ev_var rfl) BC.cl BC.n0) (ev_var rfl))) (fun qa => (et_B (ev_call (z := (_, _)) (ea_cons (ev_var rfl) (ea_cons (ev_var rfl) ea_nil)) ?_)))))) (fun h => ?_) (fun h => ?_)
      · exact ⟨ok b (List.mem_of_getElem? hb), fun o m => ok o (List.mem_filter.mp m).1, Nat.le_trans (List.length_filter_le ..) (by omega)⟩
      · have hl : (row ++ (b.name :: [])).length ≤ sizeLine := by rw [List.length_append, sizeLine_eq]; show row.length + 1 ≤ 16777216; omega
        have hh := h
        refine go_setdT (t := tLs K tSt) (x := row ++ [b.name]) (P := fun key => key.Perm (row ++ [b.name])) rfl (List.Perm.refl _) ?_ ?_ (by have := sz _ (show c.length ≤ 1000000 by omega); exact this) rfl (fun key pk mk σ H o => ?_) (fun key v pk mk σ H o => ?_)
        · exact evx_tupOf fun σ H o Q q => evx_sortS (K := K) (ev_lst (K := K) (el_star (ev_var rfl) (el_cons (ev_fld 0 (ev_var rfl) BC.cl BC.n0) el_nil)) hl) (by rw [List.length_append]; show row.length + 1 < 64; omega) σ H o Q fun v x H' px g r => q v x H' px.1 g r
        · exact ev_lst (K := K) (el_star (ev_var rfl) (el_cons (ev_fld 0 (ev_var rfl) BC.cl BC.n0) el_nil)) hl
        · refine ⟨c, ⟨?_, h2⟩, o.sb (by walk_at "sb")⟩
          rw [folP_succ hb, show folB ms ow row b = true from hh, if_pos rfl, ← List.append_assoc]
          obtain ⟨m, mm, e⟩ := List.mem_map.mp mk
          exact .skip h1 (List.mem_map_of_mem mm) ((h2 m mm).symm.trans (e ▸ pk))
        · refine ⟨c ++ [(key, v, row ++ [b.name])], ⟨?_, fun m mm => ?_⟩, o.sb (by walk_at "sb")⟩
          · rw [folP_succ hb, show folB ms ow row b = true from hh, if_pos rfl, ← List.append_assoc, List.map_append]
            exact .add h1
          · rcases List.mem_append.mp mm with mm | mm
            · exact h2 m mm
            · rw [List.mem_singleton.mp mm]
              exact pk
      · refine go_next fun σ H o => ⟨c, ⟨?_, h2⟩, o.sb (by walk_at "sb")⟩
        rw [folP_succ hb, show folB ms ow row b = false from h, if_neg (by decide), List.append_nil]
        exact h1
    · refine ⟨c, ⟨?_, hc.2⟩, o.sb (by walk_at "sb")⟩
      have := hc.1
      rw [folP_all] at this
      rw [cand_succ hx]
      exact this
  · have h1 := hc.1
    rw [List.take_length] at h1
    dsimp only at o ⊢
    exact go_at o (go_end (y := c.map fun m => m.2.2) (ev_valsMT (List.mem_cons_self ..) (ev_var rfl)) out (hp := h1))
end
end Cs
set_option maxHeartbeats 4000000
namespace Cs
open PySem PySem.Spec PyProof.Rows L2
local macro_rules | `(tactic| walk_at "rd") => `(tactic| (first
  | (refine ⟨_, rfl, ?_⟩)
  | (refine ⟨_, _, rfl, rfl, ?_⟩)
  | (refine .inl ⟨_, rfl, ?_⟩)
  | (refine .inr ⟨_, rfl, ?_⟩)
  | (refine ⟨_, _, _, _, rfl, rfl, SqL.of upd_same, rfl, ?_⟩)
  | (refine ⟨_, _, _, _, rfl, rfl, upd_same, rfl, ?_⟩)
  | (refine ⟨_, ?xs, _, ?v, rfl, rfl, ?h, ?x, ?_⟩; (case h => first | exact SqL.of (by assumption) | exact SqT.of (by assumption) | assumption); (case x => first | rfl | exact atI_nat (j := 0) rfl | exact atI_nat (j := 1) rfl))))
local macro_rules | `(tactic| walk_at "isi") => `(tactic| (first
  | (refine ⟨_, _, _, _, _, rfl, .ty _, .base (.int _), kit_ty kit_it, ?_⟩)
  | (refine ⟨_, _, _, _, _, rfl, .ty _, .base (.int _), kit_ty kit_ib, ?_⟩)
  | (refine ⟨_, _, _, _, _, rfl, .ty _, .base (.int _), kit_ty kit_ii, ?_⟩)
  | (refine ⟨_, _, _, _, _, rfl, .ty _, .base (.bl _), kit_ty kit_bt, ?_⟩)
  | (refine ⟨_, _, _, _, _, rfl, .ty _, .base (.bl _), kit_ty kit_bb, ?_⟩)
  | (refine ⟨_, _, _, _, _, rfl, .ty _, .base (.bl _), kit_ty kit_bi, ?_⟩)))
local macro_rules | `(tactic| walk_at "ev") => `(tactic| (first
  | exact ev_var rfl
  | exact ev_int
  | exact ev_str
  | exact ev_bl
  | exact ev_non
  | (refine ev_add ?_ ?_ <;> walk_at "ev")
  | (refine ev_sub ?_ ?_ <;> walk_at "ev")
  | (refine ev_mul ?_ ?_ ?_ <;> (try walk_at "ev"))
  | (refine ev_neg ?_ <;> walk_at "ev")
  | (refine ev_num ?_ <;> walk_at "ev")
  | (refine ev_den ?_ <;> walk_at "ev")
  | (refine ev_cmp ?_ ?_ <;> walk_at "ev")
  | (refine ev_eqI ?_ ?_ <;> walk_at "ev")
  | (refine ev_eqS ?_ ?_ <;> walk_at "ev")
  | (refine ev_neI ?_ ?_ <;> walk_at "ev")
  | (refine ev_neS ?_ ?_ <;> walk_at "ev")
  | (refine ev_inS ?_ ?_ <;> walk_at "ev")
  | (refine ev_niS ?_ ?_ <;> walk_at "ev")
  | (refine ev_len ?_ <;> walk_at "ev")
  | (refine ev_list ?_ <;> walk_at "ev")
  | (refine ev_listRev ?_ <;> walk_at "ev")
  | (refine ev_int1 ?_ <;> walk_at "ev")))
local macro_rules | `(tactic| walk_at "ea") => `(tactic| (first
  | exact ea_nil
  | (refine ea_cons ?_ ?_ <;> (first | walk_at "ev" | walk_at "ea" | skip))))
local macro_rules | `(tactic| walk_at "sb") => `(tactic| (first | exact True.intro | (refine And.intro rfl ?_; walk_at "sb")))
section
variable {P : Program} {w : World} {K : PySem.W.Frag} {mg : Str → Option Value} {base : Heap}
structure CrArgs where
  d : DfArgs
  nm : Str
structure CrOk (x : CrArgs) : Prop where
  d : DfOk x.d
  l6 : x.d.bs.length ≤ 6
  nd : (x.d.bs.map Bd.name).Nodup
  io : x.nm ∈ x.d.bs.map Bd.name
def leB (a b : Bd) : Bool := leN a.name b.name
/-- the least of the shortest rows, as it is found -/
def CauseAt (x : CrArgs) (ks : List Str) (r : List Str) : Prop := ∃ b ∈ x.d.bs, b.name = x.nm ∧ ∃ n R, Chain ((matesOf x.d.bs b.issuer ks).mergeSort leB) x.d.ow x.nm n R ∧ 0 < n ∧ (endsR x.nm R)[0]? = some r
abbrev spCause (K : PySem.W.Frag) (CB : Addr) : Sp := spN (fun _ => []) (fun x : CrArgs => [(tLs K (tBd K CB)).is x.d.bs, (tLs K tSt).is x.d.ow, (tLs K tSt).is x.d.ex, tSt.is x.nm]) (tOpt (tLs K tSt)) CrOk (fun x y => ∃ ks, Least x.d.bs x.d.ow x.d.ex ks ∧ ((x.nm ∉ ks ∧ y = none) ∨ (x.nm ∈ ks ∧ ∃ r, y = some r ∧ CauseAt x ks r)))
abbrev sCause : Stmt := topS 16
theorem scCause : FnScope ["bonds", "own", "exempt", "name", "fallen", "issuer", "mates", "rows", "ended", "bond", "row"] ["bonds", "own", "exempt", "name"] (defScope sCause) := ⟨rfl, rfl, rfl, by decide +kernel, rfl, by decide +kernel, by decide +kernel⟩
theorem Chain.ne {bs : List Bd} {ow ex ks : List Str} {nm iss : Str} {ms : List Bd} (ok : ∀ b ∈ bs, BdOk b) (nd : (bs.map Bd.name).Nodup) (L : Least bs ow ex ks) (hm : ms.Perm (matesOf bs iss ks)) (hn : ∃ b ∈ bs, b.name = nm ∧ b.issuer = iss) (hk : nm ∈ ks) (hw : ∀ z ∈ ow, z ∈ bs.map Bd.name) {n : Nat} {R : List (List Str)} (h : Chain ms ow nm n R) : R ≠ [] := by
  induction h with
  | zero => exact fun z => nomatch z
  | @succ n R R' h he d ih =>
    obtain ⟨r, mr⟩ := List.exists_mem_of_ne_nil _ ih
    obtain ⟨b, mb, f⟩ := row_on ok nd L hm hn hk hw (h.ok r mr).sub (h.out he r mr)
    have : r ++ [b.name] ∈ cand ms ow R := List.mem_flatMap.mpr ⟨r, mr, List.mem_map.mpr ⟨b, List.mem_filter.mpr ⟨mb, f⟩, rfl⟩⟩
    obtain ⟨r', mr', _⟩ := d.ex _ this
    exact List.ne_nil_of_mem mr'
theorem Chain.lt {ms : List Bd} {ow : List Str} {nm : Str} {n : Nat} {R : List (List Str)} (h : Chain ms ow nm n R) (he : ∀ r ∈ R, r.getLast? ≠ some nm) (hn : nm ∈ ms.map Bd.name) (ne : R ≠ []) : n < ms.length := by
  obtain ⟨r, mr⟩ := List.exists_mem_of_ne_nil _ ne
  have o := h.ok r mr
  have x := h.out he r mr
  have := nodup_len (L := (ms.map Bd.name).erase nm) o.nd fun z mz => (List.mem_erase_of_ne (fun e : z = nm => x (e ▸ mz))).mpr (o.sub z mz)
  rw [o.l, List.length_erase_of_mem hn, List.length_map] at this
  have : 0 < (ms.map Bd.name).length := List.length_pos_of_mem hn
  rw [List.length_map] at this
  omega
theorem atI_lastQ {r : List Str} {z : Str} (h : r.getLast? = some z) : atI r (-1) = some z := by
  obtain ⟨ys, rfl⟩ := List.getLast?_eq_some_iff.mp h
  exact atI_last ys z
theorem ok_cause {f Fn CB : Addr} {fd fdn : FuncData} {k : Nat} (F : Fun K "cause_row" "cause_row" sCause f fd) (Fn' : Fun K "_name_of" "_name_of" sNameOf Fn fdn) (bn : L2.Binds K fdn ["bond"] []) (g__name_of : mg "_name_of" = some (.ref Fn)) (BC : BondC K CB) (c_check_names : Cal P w K mg base k "_check_names" ["bonds", "names"] (spCkN K CB)) (c_defaults : Cal P w K mg base k "defaults" ["bonds", "own", "exempt"] (spDefaults K CB)) (c_longer_rows : Cal P w K mg base k "_longer_rows" ["mates", "own", "rows"] (spLonger K CB)) (z_sorted : mg "sorted" = none) : FnOk P w K mg base CX0 (k + 1) f fd ["bonds", "own", "exempt", "name"] (spCause K CB) := by
  refine ok_N F scCause (fun _ => rfl) fun cdv A outer s H0 S x Q E hr hp out => ?_
  have hu := hu_of hr
  refine ⟨_, (pss_cons (ps_expr (pe_cal c_check_names hr (by rfl) (pa_cons (pv 0) (pa_cons (pe_lst (StX.pa_star (pv 1) (StX.pa_star (pv 2) (pa_cons (pv 3) pa_nil)))) pa_nil))))
      (pss_cons (ps_set (i := 4) scCause.nd rfl (Or.inr rfl) (pe_cal c_defaults hr (by rfl) (pa_cons (pv 0) (pa_cons (pv 1) (pa_cons (pv 2) pa_nil)))))
      (pss_cons (ps_if (pt_cmpR op_notIn_seq (pv 3) (pv 4) (by rfl)) (pss_one (ps_ret pe_non)) pss_nil)
      (pss_cons (ps_set (i := 5) scCause.nd rfl (Or.inr rfl) (pe_ix ix_list (pe_lc (own := [("bond", 9)]) (g := gName 9)  rfl scCause.nd (pi_list (pv 0)) (blkOk_by (own := [("bond", 9)]) (N := ["bonds", "own", "exempt", "name", "fallen", "issuer", "mates", "rows", "ended", "bond", "row"]) (sc := defScope sCause) (by decide +kernel)) (fun _ _ _ _ _ => (pg_name (i := 9) scCause.nd rfl (Or.inl rfl))) (fun _ _ _ _ _ => (pts_one (pt_cmpR op_eq (pe_fldK (K := K) rfl (pv 9) rfl) (pv 3) (nomark _)))) (fun _ _ _ _ _ => (pe_fldK (K := K) rfl (pv 9) rfl))) pe_int (fun _ _ => rfl)))
      (pss_cons (ps_set (i := 6) scCause.nd rfl (Or.inl rfl) (pe_callBK (cr_sortA Fn' scNameOf bn bNameOf rfl rfl rfl hr) (by rfl) z_sorted (by decide +kernel) (pa_cons (pe_lc (own := [("bond", 9)]) (g := gName 9)  rfl scCause.nd (pi_list (pv 0)) (blkOk_by (own := [("bond", 9)]) (N := ["bonds", "own", "exempt", "name", "fallen", "issuer", "mates", "rows", "ended", "bond", "row"]) (sc := defScope sCause) (by decide +kernel)) (fun _ _ _ _ _ => (pg_name (i := 9) scCause.nd rfl (Or.inl rfl))) (fun _ _ _ _ _ => (pts_one (PW.pt (pw_and (pt_cmpR op_eq (pe_fldK (K := K) rfl (pv 9) rfl) (pv 5) (nomark _)) (pw_and1 (pt_cmpR (op_inK (K := K) rfl) (pe_fldK (K := K) rfl (pv 9) rfl) (pv 4) (by rfl))))))) (fun _ _ _ _ _ => (pv 9))) pa_nil) (pk_cons (pe_glob (v := .ref Fn) (by rfl) g__name_of rfl) pk_nil)))
      (pss_cons (ps_set (i := 7) scCause.nd rfl (Or.inl rfl) (pe_lst (pa_cons (pe_lst pa_nil) pa_nil)))
      (pss_cons (ps_set (i := 8) scCause.nd rfl (Or.inl rfl) (pe_lst pa_nil))
      (pss_cons (ps_while PassesOwn.never (pt_not (pt_truth (pv 8) (fun _ => rfl))) (pss_cons (ps_set (i := 7) scCause.nd rfl (Or.inl rfl) (pe_cal c_longer_rows hr (by rfl) (pa_cons (pv 6) (pa_cons (pv 1) (pa_cons (pv 7) pa_nil)))))
      (pss_one (ps_setLc (i := 8) (own := [("row", 10)]) (g := gName 10)  rfl scCause.nd rfl rfl (sw_true rfl rfl rfl (by decide +kernel)) (pi_list (pv 7)) (blkOk_by (own := [("row", 10)]) (N := ["bonds", "own", "exempt", "name", "fallen", "issuer", "mates", "rows", "ended", "bond", "row"]) (sc := defScope sCause) (by decide +kernel)) (fun _ _ _ _ _ => (pg_name (i := 10) scCause.nd rfl (Or.inl rfl))) (fun _ _ _ _ _ => (pts_one (pt_cmpR op_eq (pe_ix (ix_lstK (K := K) rfl) (pv 10) (pe_un un_neg pe_int) (fun _ _ => rfl)) (pv 3) (nomark _)))) (fun _ _ _ _ _ => (pv 10))))))
      (pss_one (ps_ret (pe_ix ix_list (pv 8) pe_int (fun _ _ => rfl)))))))))))), ?_⟩
  obtain ⟨⟨bs, ow, ex⟩, nm⟩ := x
  obtain ⟨hd, l6, nd, io⟩ := hp
  have ok : ∀ b ∈ bs, BdOk b := hd.ok
  have l6 : bs.length ≤ 6 := l6
  have lo : ow.length ≤ 100 := hd.lo
  have le : ex.length ≤ 100 := hd.le
  have iow : ∀ z ∈ ow, z ∈ bs.map Bd.name := hd.io
  have iex : ∀ z ∈ ex, z ∈ bs.map Bd.name := hd.ie
  have nd : (bs.map Bd.name).Nodup := nd
  have io : nm ∈ bs.map Bd.name := io
  have sz : ∀ n, n ≤ 1000000 → n < sizeLine := fun n h => by rw [sizeLine_eq]; omega
  refine go_drop (ev_call (z := (_, _)) (ea_cons (ev_var rfl) (ea_cons (ev_lst (K := K) (el_star (ev_var rfl) (el_star (ev_var rfl) (el_cons (ev_var rfl) el_nil))) ?_) ea_nil)) ?_) ?_
  · show (ow ++ (ex ++ [nm])).length ≤ sizeLine
    rw [List.length_append, List.length_append, sizeLine_eq]
    show ow.length + (ex.length + 1) ≤ 16777216
    omega
  · refine ⟨fun z m => ?_, by show bs.length ≤ 20; omega⟩
    rcases List.mem_append.mp (show z ∈ ow ++ (ex ++ [nm]) from m) with m | m
    · exact iow z m
    · rcases List.mem_append.mp m with m | m
      · exact iex z m
      · rw [List.mem_singleton.mp m]; exact io
  refine go_setx (evx_call (z := (DfArgs.mk _ _ _)) (ea_cons (ev_var rfl) (ea_cons (ev_var rfl) (ea_cons (ev_LT (ev_var rfl)) ea_nil))) ?_) fun fallen hf => ?_
  · exact hd
  obtain ⟨ks, L, rfl⟩ := hf
  have L : Least bs ow ex ks := L
  have mem_fal : ∀ z, z ∈ (inN ks bs).map Bd.name ↔ z ∈ bs.map Bd.name ∧ z ∈ ks := fun z => by
    constructor
    · intro m
      obtain ⟨b, mb, rfl⟩ := List.mem_map.mp m
      obtain ⟨m1, m2⟩ := List.mem_filter.mp mb
      exact ⟨List.mem_map_of_mem m1, of_decide_eq_true m2⟩
    · rintro ⟨m, h⟩
      obtain ⟨b, mb, rfl⟩ := List.mem_map.mp m
      exact List.mem_map_of_mem (List.mem_filter.mpr ⟨mb, decide_eq_true h⟩)
  refine go_ifr (et_of (ev_niS (ev_var rfl) (ev_var rfl))) (fun h => ?_) (fun h => ?_)
  · have hk : nm ∉ ks := fun z => by
      simp only [Bool.not_eq_true', decide_eq_false_iff_not] at h
      exact h ((mem_fal nm).mpr ⟨io, z⟩)
    exact go_end (y := (none : Option (List Str))) (ev_to (u := tOpt (tLs K tSt)) (y := none) ev_non fun _ _ r => r) out (hp := ⟨ks, L, .inl ⟨hk, rfl⟩⟩)
  have hk : nm ∈ ks := by
    simp only [Bool.not_eq_false', decide_eq_true_eq] at h
    exact ((mem_fal nm).mp h).2
  obtain ⟨b0, mb0, eb0⟩ := List.mem_map.mp io
  refine go_set (x := b0.issuer) (ev_ixL (ev_lcf (K := K) (iv_list (ev_var rfl)) tgt_name (by simp) ?_ (fun _ _ _ x _ xm => (et_of (ev_eqS (ev_fld 0 (ev_var rfl) BC.cl BC.n0) (ev_var rfl)))) (fun _ _ _ x _ xm px => (ev_fld 1 (ev_var rfl) BC.cl BC.n1))) ev_int ?_) ?_
  · exact sz _ (by show bs.length ≤ _; omega)
  · refine atI_nat (j := 0) ?_
    have : bs.filter (fun b => decide (b.name = nm)) = [b0] := by
      have h1 : ∀ l : List Bd, (l.map Bd.name).Nodup → b0 ∈ l → l.filter (fun b => decide (b.name = nm)) = [b0] := by
        intro l
        induction l with
        | nil => intro _ m; cases m
        | cons x l ih =>
          intro hn m
          rw [List.map_cons, List.nodup_cons] at hn
          rcases List.mem_cons.mp m with e | m
          · subst e
            rw [List.filter_cons_of_pos (p := fun b : Bd => decide (b.name = nm)) (decide_eq_true eb0)]
            have : l.filter (fun b => decide (b.name = nm)) = [] := List.filter_eq_nil_iff.mpr fun b mb z => hn.1 (by rw [eb0, ← of_decide_eq_true z]; exact List.mem_map_of_mem mb)
            rw [this]
          · have : ¬ (decide (x.name = nm) = true) := fun z => hn.1 (by rw [of_decide_eq_true z, ← eb0]; exact List.mem_map_of_mem m)
            rw [List.filter_cons_of_neg (p := fun b : Bd => decide (b.name = nm)) this]
            exact ih hn.2 m
      exact h1 bs nd mb0
    rw [this]
    rfl
  have emates : (bs.filter fun b => decide (b.issuer = b0.issuer) && decide (b.name ∈ (inN ks bs).map Bd.name)) = matesOf bs b0.issuer ks := by
    unfold matesOf
    refine List.filter_congr fun b mb => ?_
    congr 1
    rw [Bool.eq_iff_iff, decide_eq_true_eq, decide_eq_true_eq, mem_fal]
    exact ⟨fun h => h.2, fun h => ⟨List.mem_map_of_mem mb, h⟩⟩
  refine go_set (x := (matesOf bs b0.issuer ks).mergeSort leB) (ev_is (ev_sortA 0 (ev_lcf (K := K) (iv_list (ev_var rfl)) tgt_name (by simp) ?_ (fun _ _ _ x _ xm => (et_and (et_of (ev_eqS (ev_fld 1 (ev_var rfl) BC.cl BC.n1) (ev_var rfl))) (fun qa => (et_of (ev_inS (ev_fld 0 (ev_var rfl) BC.cl BC.n0) (ev_var rfl)))))) (fun _ _ _ x _ xm px => (ev_var rfl))) (fun σ H o Q q => q _ H (Go1.refl o) rfl) BC.cl BC.n0 (fun _ => rfl) ?_) ?_) ?_
  · exact sz _ (by show bs.length ≤ _; omega)
  · rw [List.length_map]
    exact Nat.lt_of_le_of_lt (List.length_filter_le ..) (by show bs.length < 1000; omega)
  · rw [List.map_id', emates]
    rfl
  generalize hms : (matesOf bs b0.issuer ks).mergeSort leB = ms
  have pm : ms.Perm (matesOf bs b0.issuer ks) := by rw [← hms]; exact List.mergeSort_perm ..
  have lms : ms.length ≤ 6 := by
    rw [pm.length_eq]
    exact Nat.le_trans (List.length_filter_le ..) l6
  have mms : ∀ b ∈ ms, b ∈ bs := fun b m => (List.mem_filter.mp (pm.mem_iff.mp m)).1
  have nmm : nm ∈ ms.map Bd.name := by
    rw [← eb0]
    refine List.mem_map_of_mem (pm.mem_iff.mpr (List.mem_filter.mpr ⟨mb0, ?_⟩))
    simp [eb0, hk]
  refine go_set (t := tLs K (tLs K tSt)) (x := ([[]] : List (List Str))) (ev_lst (K := K) (el_cons (ev_nil (K := K)) el_nil)) ?_
  refine go_set (t := tLs K (tLs K tSt)) (x := ([] : List (List Str))) (ev_nil (K := K)) ?_
  have hb0 : ∃ b ∈ bs, b.name = nm ∧ b.issuer = b0.issuer := ⟨b0, mb0, eb0, rfl⟩
  refine go_seq (go_while (J := fun c : Nat × List (List Str) × List (List Str) => ⟨H0, [], S, [], [], [some ((tLs K (tBd K CB)).is bs), some ((tLs K tSt).is ow), some ((tLs K tSt).is ex), some (tSt.is nm), none, none, some ((tLs K (tBd K CB)).is ms), some ((tLs K (tLs K tSt)).is c.2.1), some ((tLs K (tLs K tSt)).is c.2.2), none, none]⟩)
    (fun c => Chain ms ow nm c.1 c.2.1 ∧ ((c.1 = 0 ∧ c.2.2 = []) ∨ (0 < c.1 ∧ c.2.2 = endsR nm c.2.1))) (fun c => 7 - c.1) (0, [[]], []) ⟨.zero, .inl ⟨rfl, rfl⟩⟩ (fun σ H o => o.sb (by walk_at "sb")) (fun c hc => ?_))
  obtain ⟨n, R, E⟩ := c
  obtain ⟨hch, hE⟩ := hc
  have hch : Chain ms ow nm n R := hch
  have hE : (n = 0 ∧ E = []) ∨ (0 < n ∧ E = endsR nm R) := hE
  have neR : R ≠ [] := hch.ne ok nd L pm hb0 hk iow
  refine ⟨_, (et_not (et_tru (ev_var rfl))), fun h => ?_, fun h σ H o => ?_⟩
  · have hE0 : E = [] := by simpa using h
    have hno : ∀ r ∈ R, r.getLast? ≠ some nm := fun r mr z => by
      rcases hE with ⟨e, _⟩ | ⟨_, e⟩
      · subst e
        cases hch
        rw [List.mem_singleton.mp mr] at z
        cases z
      · have : r ∈ endsR nm R := List.mem_filter.mpr ⟨mr, decide_eq_true z⟩
        rw [← e, hE0] at this
        cases this
    have hlt := hch.lt hno nmm neR
    have lR : R.length ≤ 6 ^ 6 := Nat.le_trans hch.len (Nat.le_trans (Nat.pow_le_pow_left lms n) (Nat.pow_le_pow_right (by decide) (by omega)))
    have lR : R.length ≤ 46656 := lR
    refine go_setx (evx_call (z := (LrArgs.mk _ _ _)) (ea_cons (ev_var rfl) (ea_cons (ev_var rfl) (ea_cons (ev_var rfl) ea_nil))) ?_) fun R' hR' => ?_
    · exact ⟨fun b m => ok b (mms b m), lms, lo, by show R.length ≤ 50000; omega, fun r mr => by rw [(hch.ok r mr).l]; omega⟩
    have hR' : Dd (cand ms ow R) R' := hR'
    have hch' : Chain ms ow nm (n + 1) R' := .succ hch hno hR'
    have lR' : R'.length ≤ 6 ^ 6 := Nat.le_trans hch'.len (Nat.le_trans (Nat.pow_le_pow_left lms (n + 1)) (Nat.pow_le_pow_right (by decide) (by omega)))
    have lR' : R'.length ≤ 46656 := lR'
    have hlast : ∀ r ∈ R', ∃ z, r.getLast? = some z := fun r mr => by
      cases q : r.getLast? with
      | some z => exact ⟨z, rfl⟩
      | none =>
        have := (hch'.ok r mr).l
        rw [List.getLast?_eq_none_iff.mp q] at this
        cases this
    refine go_set1 (x := endsR nm R') (ev_is (x := (R'.filter fun r => decide (r.getLast?.getD "" = nm)).map fun r => r) (ev_lcf (K := K) (iv_list (ev_var rfl)) tgt_name (by simp) ?_ (fun _ _ _ x _ xm => (et_of (ev_eqS (ev_ixL (ev_var rfl) (ev_neg ev_int) ?_) (ev_var rfl)))) (fun _ _ _ x _ xm px => (ev_var rfl))) ?_) fun σ H o => ?_
    · exact sz _ (by omega)
    · obtain ⟨z, hz⟩ := hlast x xm
      rw [hz]
      exact atI_lastQ hz
    · rw [List.map_id']
      refine List.filter_congr fun r mr => ?_
      obtain ⟨z, hz⟩ := hlast r mr
      rw [hz, Bool.eq_iff_iff, decide_eq_true_eq, decide_eq_true_eq]
      exact ⟨fun e => congrArg some e, fun e => Option.some.inj e⟩
    · exact ⟨(n + 1, R', endsR nm R'), ⟨hch', .inr ⟨Nat.succ_pos _, rfl⟩⟩, by show 7 - (n + 1) < 7 - n; omega, o.sb (by walk_at "sb")⟩
  · have hE0 : E ≠ [] := by simpa using h
    have hn : 0 < n ∧ E = endsR nm R := hE.resolve_left fun z => hE0 z.2
    obtain ⟨r, hr⟩ : ∃ r, E[0]? = some r := ⟨_, List.getElem?_eq_getElem (List.length_pos_iff.mpr hE0)⟩
    dsimp only at o ⊢
    exact go_at o (go_end (y := some r) (ev_to (u := tOpt (tLs K tSt)) (y := some r) (ev_ixL (ev_var rfl) ev_int (atI_nat (j := 0) hr)) fun _ v h => ⟨h, by obtain ⟨p, vs, rfl, _⟩ := h; simp⟩) out (hp := ⟨ks, L, .inr ⟨hk, r, rfl, b0, mb0, eb0, n, R, by rw [hms]; exact hch, hn.1, by rw [← hn.2]; exact hr⟩⟩))
end
end Cs
set_option maxHeartbeats 4000000
namespace Cs
open PySem PySem.Spec PyProof.Rows L2
local macro_rules | `(tactic| walk_at "rd") => `(tactic| (first
  | (refine ⟨_, rfl, ?_⟩)
  | (refine ⟨_, _, rfl, rfl, ?_⟩)
  | (refine .inl ⟨_, rfl, ?_⟩)
  | (refine .inr ⟨_, rfl, ?_⟩)
  | (refine ⟨_, _, _, _, rfl, rfl, SqL.of upd_same, rfl, ?_⟩)
  | (refine ⟨_, _, _, _, rfl, rfl, upd_same, rfl, ?_⟩)
  | (refine ⟨_, ?xs, _, ?v, rfl, rfl, ?h, ?x, ?_⟩; (case h => first | exact SqL.of (by assumption) | exact SqT.of (by assumption) | assumption); (case x => first | rfl | exact atI_nat (j := 0) rfl | exact atI_nat (j := 1) rfl))))
local macro_rules | `(tactic| walk_at "isi") => `(tactic| (first
  | (refine ⟨_, _, _, _, _, rfl, .ty _, .base (.int _), kit_ty kit_it, ?_⟩)
  | (refine ⟨_, _, _, _, _, rfl, .ty _, .base (.int _), kit_ty kit_ib, ?_⟩)
  | (refine ⟨_, _, _, _, _, rfl, .ty _, .base (.int _), kit_ty kit_ii, ?_⟩)
  | (refine ⟨_, _, _, _, _, rfl, .ty _, .base (.bl _), kit_ty kit_bt, ?_⟩)
  | (refine ⟨_, _, _, _, _, rfl, .ty _, .base (.bl _), kit_ty kit_bb, ?_⟩)
  | (refine ⟨_, _, _, _, _, rfl, .ty _, .base (.bl _), kit_ty kit_bi, ?_⟩)))
local macro_rules | `(tactic| walk_at "ev") => `(tactic| (first
  | exact ev_var rfl
  | exact ev_int
  | exact ev_str
  | exact ev_bl
  | exact ev_non
  | (refine ev_add ?_ ?_ <;> walk_at "ev")
  | (refine ev_sub ?_ ?_ <;> walk_at "ev")
  | (refine ev_mul ?_ ?_ ?_ <;> (try walk_at "ev"))
  | (refine ev_neg ?_ <;> walk_at "ev")
  | (refine ev_num ?_ <;> walk_at "ev")
  | (refine ev_den ?_ <;> walk_at "ev")
  | (refine ev_cmp ?_ ?_ <;> walk_at "ev")
  | (refine ev_eqI ?_ ?_ <;> walk_at "ev")
  | (refine ev_eqS ?_ ?_ <;> walk_at "ev")
  | (refine ev_neI ?_ ?_ <;> walk_at "ev")
  | (refine ev_neS ?_ ?_ <;> walk_at "ev")
  | (refine ev_inS ?_ ?_ <;> walk_at "ev")
  | (refine ev_niS ?_ ?_ <;> walk_at "ev")
  | (refine ev_len ?_ <;> walk_at "ev")
  | (refine ev_list ?_ <;> walk_at "ev")
  | (refine ev_listRev ?_ <;> walk_at "ev")
  | (refine ev_int1 ?_ <;> walk_at "ev")))
local macro_rules | `(tactic| walk_at "ea") => `(tactic| (first
  | exact ea_nil
  | (refine ea_cons ?_ ?_ <;> (first | walk_at "ev" | walk_at "ea" | skip))))
local macro_rules | `(tactic| walk_at "sb") => `(tactic| (first | exact True.intro | (refine And.intro rfl ?_; walk_at "sb")))
section
variable {P : Program} {w : World} {K : PySem.W.Frag} {mg : Str → Option Value} {base : Heap}
def tAny : Ty Unit := ⟨fun _ _ _ => True, fun _ h => h⟩
abbrev bdA (K : PySem.W.Frag) (b : Bd) : List SF := [tSt.is b.name, tSt.is b.issuer, tInt.is b.units, (tFr K).is b.face, tAny.is (), tAny.is (), tAny.is (), tAny.is (), tAny.is (), tAny.is (), tAny.is (), (tLs K tAny).is [], tAny.is (), (tLs K tAny).is [], (tOpt (tFr K)).is b.cross, (tLs K tAny).is []]
abbrev spBInit (K : PySem.W.Frag) (CB : Addr) : Sp := spI CB (bdA K) (fun _ => True) (bdF K)
abbrev sBInit : Stmt := inClass (topS 22) 0
theorem scBInit : FnScope ["self", "name", "issuer", "units", "face", "first_day", "last_day", "months", "count", "adjust", "record", "rank", "lets", "coupon", "promises", "cross", "calls"] ["self", "name", "issuer", "units", "face", "first_day", "last_day", "months", "count", "adjust", "record", "rank", "lets", "coupon", "promises", "cross", "calls"] (defScope sBInit) := ⟨rfl, rfl, rfl, by decide +kernel, rfl, by decide +kernel, by decide +kernel⟩
theorem ok_binit {f CB : Addr} {fd : FuncData} {k : Nat} (F : Fun K "__init__" "Bond.__init__" sBInit f fd) (BC : BondC K CB) (z_list : mg "list" = none) : FnOk P w K mg base CX0 (k + 1) f fd ["self", "name", "issuer", "units", "face", "first_day", "last_day", "months", "count", "adjust", "record", "rank", "lets", "coupon", "promises", "cross", "calls"] (spBInit K CB) := by
  refine ok_I F scBInit (fun _ => rfl) fun cdv A outer s H0 S b a dx Q E hr hp am => ⟨_, (pss_cons (ps_fld (pv 0) (pv 1) rfl)
      (pss_cons (ps_fld (pv 0) (pv 2) rfl)
      (pss_cons (ps_fld (pv 0) (pv 3) rfl)
      (pss_cons (ps_fld (pv 0) (pv 4) rfl)
      (pss_cons (ps_fld (pv 0) (pv 5) rfl)
      (pss_cons (ps_fld (pv 0) (pv 6) rfl)
      (pss_cons (ps_fld (pv 0) (pv 7) rfl)
      (pss_cons (ps_fld (pv 0) (pv 8) rfl)
      (pss_cons (ps_fld (pv 0) (pv 9) rfl)
      (pss_cons (ps_fld (pv 0) (pv 10) rfl)
      (pss_cons (ps_fld (pv 0) (pv 11) rfl)
      (pss_cons (ps_fld (pv 0) (pe_callTy call_list_of (by rfl) z_list (by decide +kernel) (pa_cons (pv 12) pa_nil)) rfl)
      (pss_cons (ps_fld (pv 0) (pv 13) rfl)
      (pss_cons (ps_fld (pv 0) (pe_callTy call_list_of (by rfl) z_list (by decide +kernel) (pa_cons (pv 14) pa_nil)) rfl)
      (pss_cons (ps_fld (pv 0) (pv 15) rfl)
      (pss_one (ps_fld (pv 0) (pe_callTy call_list_of (by rfl) z_list (by decide +kernel) (pa_cons (pv 16) pa_nil)) rfl))))))))))))))))), fun nx out => ?_⟩
  refine go_fldS (s := 0) rfl rfl (ev_var rfl) BC.cl BC.n0 ?_
  refine go_fldS (s := 0) rfl rfl (ev_var rfl) BC.cl BC.n1 ?_
  refine go_fldS (s := 0) rfl rfl (ev_var rfl) BC.cl BC.n2 ?_
  refine go_fldS (s := 0) rfl rfl (ev_var rfl) BC.cl BC.n3 ?_
  refine go_fldS (s := 0) rfl rfl (ev_var rfl) BC.cl BC.n5 ?_
  refine go_fldS (s := 0) rfl rfl (ev_var rfl) BC.cl BC.n6 ?_
  refine go_fldS (s := 0) rfl rfl (ev_var rfl) BC.cl BC.n7 ?_
  refine go_fldS (s := 0) rfl rfl (ev_var rfl) BC.cl BC.n8 ?_
  refine go_fldS (s := 0) rfl rfl (ev_var rfl) BC.cl BC.n9 ?_
  refine go_fldS (s := 0) rfl rfl (ev_var rfl) BC.cl BC.n10 ?_
  refine go_fldS (s := 0) rfl rfl (ev_var rfl) BC.cl BC.n11 ?_
  refine go_fldS (s := 0) rfl rfl (ev_list (ev_var rfl)) BC.cl BC.n12 ?_
  refine go_fldS (s := 0) rfl rfl (ev_var rfl) BC.cl BC.n13 ?_
  refine go_fldS (s := 0) rfl rfl (ev_list (ev_var rfl)) BC.cl BC.n14 ?_
  refine go_fldS (s := 0) rfl rfl (ev_var rfl) BC.cl BC.n4 ?_
  refine go_fldS1 (s := 0) rfl rfl (ev_list (ev_var rfl)) BC.cl BC.n15 fun σ H o => out _ _ _ σ H o (fun p m => ?_)
  simp only [bdF, List.mem_cons, List.not_mem_nil, or_false] at m
  rcases m with rfl | rfl | rfl | rfl | rfl <;> simp
def bdPs : List Str := ["self", "name", "issuer", "units", "face", "first_day", "last_day", "months", "count", "adjust", "record", "rank", "lets", "coupon", "promises", "cross", "calls"]
def bdKs : List Str := ["units", "face", "first_day", "last_day", "months", "count", "adjust", "record", "rank", "lets", "coupon", "promises", "cross", "calls"]
/-- how a bond is made -/
structure MkBd (P : Program) (w : World) (K : PySem.W.Frag) (mg : Str → Option Value) (base : Heap) (k : Nat) (CB fI : Addr) (fdI : FuncData) (g : List Value → List Value → List Value) : Prop where
  mkc : Mk K CB fI
  ok : FnOk P w K mg base CX0 k fI fdI bdPs (spBInit K CB)
  m : mg "Bond" = some (.ref CB)
  kb : KBn K fdI bdPs 3 bdKs g (fun vs zs => vs ++ zs)
def nmAt (k : Nat) : Str := ⟨#[97 + k]⟩
structure FamOk (bs : List Bd) : Prop where
  l : bs.length ≤ 6
  ok : ∀ b ∈ bs, BdOk b
  nm : bs.map Bd.name = (List.range bs.length).map nmAt
theorem nmAt_inj {i j : Nat} (h : nmAt i = nmAt j) : i = j := by
  have h1 : (#[97 + i] : Array Nat) = #[97 + j] := congrArg Str.cps h
  have h2 := congrArg (fun a => a.toList.headD 0) h1
  have h3 : 97 + i = 97 + j := h2
  omega
theorem nodup_map_inj {α β : Type} {f : α → β} (hf : ∀ x y, f x = f y → x = y) : ∀ {l : List α}, l.Nodup → (l.map f).Nodup
  | [], _ => List.nodup_nil
  | x :: l, h => by
    rw [List.nodup_cons] at h
    rw [List.map_cons, List.nodup_cons]
    refine ⟨fun m => ?_, nodup_map_inj hf h.2⟩
    obtain ⟨y, my, e⟩ := List.mem_map.mp m
    exact h.1 (hf _ _ e ▸ my)
theorem FamOk.nd {bs : List Bd} (h : FamOk bs) : (bs.map Bd.name).Nodup := by
  rw [h.nm]
  exact nodup_map_inj (fun i j e => nmAt_inj e) List.nodup_range
abbrev spLFam (K : PySem.W.Frag) (CB : Addr) : Sp := spN (fun x : Addr × Addr × List Int => [cell x.1 (cDk K x.1 x.2.1 x.2.2)]) (fun x => [tRf.is x.1]) (tLs K (tBd K CB)) (fun _ => True) (fun _ bs => FamOk bs)
def frB (c : (Int × Rat × Unit)) : Int × Rat := (c.1, c.2.1)
abbrev sLFam : Stmt := topS 33
theorem scLFam : FnScope ["deck", "bonds", "k", "cross", "issuer", "face"] ["deck"] (defScope sLFam) := ⟨rfl, rfl, rfl, by decide +kernel, rfl, by decide +kernel, by decide +kernel⟩
theorem ok_lfam {f CB fI : Addr} {fd fdI : FuncData} {k : Nat} {g : List Value → List Value → List Value} (F : Fun K "_law_family" "_law_family" sLFam f fd) (MB : MkBd P w K mg base k CB fI fdI g) (c_law_draw : Cal P w K mg base (k + 1) "_law_draw" ["deck", "most"] (spDrawA K)) (c_law_ratio : Cal P w K mg base (k + 1) "_law_ratio" ["p", "q"] spRatio) (z_range : mg "range" = none) (z_int : mg "int" = none) : FnOk P w K mg base CX0 (k + 2) f fd ["deck"] (spLFam K CB) := by
  obtain ⟨mk_Bond, ok_Bond, m_Bond, kb_Bond⟩ := MB
  refine ok_N F scLFam (fun _ => rfl) fun cdv A outer s H0 S x Q E hr hp out => ⟨_, (pss_cons (ps_set (i := 1) scLFam.nd rfl (Or.inl rfl) (pe_lst pa_nil))
      (pss_cons (ps_for PassesOwn.never rfl (pi_range1 rfl z_range (pa_cons (pe_op op_add pe_int (pe_cal c_law_draw hr (by rfl) (pa_cons (pv 0) (pa_cons pe_int pa_nil)))) pa_nil)) (pg_name (i := 2) scLFam.nd rfl (Or.inl rfl)) (pss_cons (ps_set (i := 3) scLFam.nd rfl (Or.inl rfl) pe_non)
      (pss_cons (ps_if (pt_cmpR op_gt (pe_cal c_law_draw hr (by rfl) (pa_cons (pv 0) (pa_cons pe_int pa_nil))) pe_int (nomark _)) (pss_one (ps_set (i := 3) scLFam.nd rfl (Or.inl rfl) (pe_cal c_law_ratio hr (by rfl) (pa_cons (pe_cal c_law_draw hr (by rfl) (pa_cons (pv 0) (pa_cons pe_int pa_nil))) (pa_cons (pe_op op_add pe_int (pe_cal c_law_draw hr (by rfl) (pa_cons (pv 0) (pa_cons pe_int pa_nil)))) pa_nil))))) pss_nil)
      (pss_cons (ps_set (i := 4) scLFam.nd rfl (Or.inl rfl) (pe_ix ix_list (pe_lst (pa_cons pe_str (pa_cons pe_str pa_nil))) (pe_callTy call_int1 (by rfl) z_int (by decide +kernel) (pa_cons (pe_cmpR op_eq (pe_cal c_law_draw hr (by rfl) (pa_cons (pv 0) (pa_cons pe_int pa_nil))) pe_int (nomark _)) pa_nil)) (fun _ _ => rfl)))
      (pss_cons (ps_set (i := 5) scLFam.nd rfl (Or.inl rfl) (pe_cal c_law_ratio hr (by rfl) (pa_cons (pe_op op_add pe_int (pe_cal c_law_draw hr (by rfl) (pa_cons (pv 0) (pa_cons pe_int pa_nil)))) (pa_cons (pe_op op_add pe_int (pe_cal c_law_draw hr (by rfl) (pa_cons (pv 0) (pa_cons pe_int pa_nil)))) pa_nil))))
      (pss_one (ps_expr (pe_bm PySem.F.plainAttrs_list PySem.F.slot_list_append PySem.F.type_list_append mt_append (pv 1) (pa_cons (pe_makeK mk_Bond ok_Bond hr (by rfl) m_Bond kb_Bond pass0 (pa_cons (pe_ix ix_str pe_str (pv 2) (fun _ _ => rfl)) (pa_cons (pv 4) pa_nil)) (pk_cons (pe_op op_add pe_int (pe_cal c_law_draw hr (by rfl) (pa_cons (pv 0) (pa_cons pe_int pa_nil)))) (pk_cons (pv 5) (pk_cons pe_int (pk_cons pe_int (pk_cons pe_int (pk_cons pe_str (pk_cons pe_str (pk_cons pe_int (pk_cons pe_int (pk_cons (pe_lst pa_nil) (pk_cons (pe_tup (pa_cons pe_str (pa_cons (pe_tup (pa_cons pe_int (pa_cons pe_int pa_nil))) pa_nil))) (pk_cons (pe_lst pa_nil) (pk_cons (pv 3) (pk_cons (pe_lst pa_nil) pk_nil))))))))))))))) pa_nil)))))))))
      (pss_one (ps_ret (pv 1))))), ?_⟩
  obtain ⟨d, l, ns⟩ := x
  refine go_ms fun hm => ?_
  refine go_newN (t := tBd K CB) el_nil (k := fun p np => ?_)
  refine go_seq (go_forx (ivx_range1 (evx_add (Ev.xe ev_int) (evx_draw (K := K) rfl (List.mem_cons_of_mem _ (List.mem_cons_self ..)) ev_int (by decide) (lt8 (by decide)))) ?_) tgt_name (fun k (bs : List Bd) => ([cell p (cLs (tBd K CB) bs), cell d (cDk K d l ns)], [some (tRf.is d), some (tRf.is p), none, none, none, none])) (fun k bs => k = bs.length ∧ FamOk bs) [] ⟨rfl, by decide, (fun b m => nomatch m), rfl⟩ (fun σ H o => ?_) (fun xs k bs x f hX hx hk => ?_) (fun xs bs hX hk σ H o => ?_))
  · rintro n ⟨i, j, rfl, ⟨h1, h2⟩, rfl⟩
    omega
  · exact o.sb (by walk_at "sb")
  · obtain ⟨n, ⟨i, j, rfl, ⟨h1, h2⟩, rfl⟩, rfl⟩ := hX
    obtain ⟨rfl, hf⟩ := hk
    have hx : (((List.range (1 + j).toNat).map fun (i : Nat) => (i : Int))[bs.length]?) = some x := hx
    have hlt : bs.length < (1 + j).toNat := by
      have := (List.getElem?_eq_some_iff.mp hx).1
      simpa using this
    have hx : x = (bs.length : Int) := by
      rw [List.getElem?_map, List.getElem?_range hlt] at hx
      exact (Option.some.inj hx).symm
    subst hx
    have l6 : bs.length < 6 := by omega
    have d40 : ∀ q : Int, q ≠ 0 → q.natAbs < 100 → q.natAbs < 2 ^ 2400 := fun q _ h => Nat.lt_trans h (Nat.lt_of_lt_of_le (by decide : 100 < 2 ^ 7) (Nat.pow_le_pow_right (by decide) (by decide)))
    have d41 : ∀ q : Int, q.natAbs < 100 → q.natAbs < 2 ^ 2400 := fun q h => Nat.lt_trans h (Nat.lt_of_lt_of_le (by decide : 100 < 2 ^ 7) (Nat.pow_le_pow_right (by decide) (by decide)))
    have s10 : ∀ p q : Int, q ≠ 0 → p.natAbs < 100 → q.natAbs < 100 → Sz 10 (Rat.divInt p q) := fun p q h a b => sz_div h (Nat.lt_trans a (by decide)) (Nat.lt_trans b (by decide))
    refine go_set (t := tOpt (tFr K)) (x := none) (ev_to ev_non fun _ _ r => r) ?_
    refine go_ifj (fun cr : Option Rat => ⟨H0, _, p :: S, [cell p (cLs (tBd K CB) bs), cell d (cDk K d l ns)], [f], [some (tRf.is d), some (tRf.is p), some (tInt.is (bs.length : Int)), some ((tOpt (tFr K)).is cr), none, none]⟩) (fun cr => ∀ c, cr = some c → Sz 10 c) (etx_cmp (evx_draw (K := K) rfl (List.mem_cons_of_mem _ (List.mem_cons_self ..)) ev_int (by decide) (lt8 (by decide))) ev_int) (fun _ nx hnx => go_set1x (t := tOpt (tFr K)) (P := fun cr => ∀ c, cr = some c → Sz 10 c) (evx_to (evx_ratio (K := K) (evx_draw (K := K) rfl (List.mem_cons_of_mem _ (List.mem_cons_self ..)) ev_int (by decide) (lt8 (by decide))) (evx_add (Ev.xe ev_int) (evx_draw (K := K) rfl (List.mem_cons_of_mem _ (List.mem_cons_self ..)) ev_int (by decide) (lt8 (by decide)))) ?_) ?_) fun cr pc σ H o => hnx cr pc σ H o) (fun _ => ⟨none, (fun c h => by cases h), fun σ H o => o⟩) fun cr pc => ?_
    · rintro p q ⟨h1, h2⟩ ⟨i, j, rfl, ⟨h3, h4⟩, rfl⟩
      exact ⟨by omega, d41 _ (by omega), d41 _ (by omega)⟩
    · rintro r ⟨p, q, ⟨h1, h2⟩, ⟨i, j, rfl, ⟨h3, h4⟩, rfl⟩, rfl⟩
      refine ⟨some _, fun c e => Option.some.inj e ▸ s10 _ _ (by omega) (by omega) (by omega), fun H v h => ⟨h, ?_⟩⟩
      obtain ⟨a, rfl, _⟩ := h
      simp
    refine go_setx (P := fun _ => True) (evx_ixL (ev_lst (K := K) (el_cons ev_str (el_cons ev_str el_nil))) (evx_intB (evx_eqI (evx_draw (K := K) rfl (List.mem_cons_of_mem _ (List.mem_cons_self ..)) ev_int (by decide) (lt8 (by decide))) ev_int)) ?_) fun iss _ => ?_
    · rintro n ⟨b, ⟨i, ⟨h1, h2⟩, rfl⟩, rfl⟩
      by_cases q : i = 0
      · subst q; exact ⟨_, trivial, rfl⟩
      · rw [decide_eq_false q]; exact ⟨_, trivial, rfl⟩
    refine go_setx (evx_ratio (K := K) (evx_add (Ev.xe ev_int) (evx_draw (K := K) rfl (List.mem_cons_of_mem _ (List.mem_cons_self ..)) ev_int (by decide) (lt8 (by decide)))) (evx_add (Ev.xe ev_int) (evx_draw (K := K) rfl (List.mem_cons_of_mem _ (List.mem_cons_self ..)) ev_int (by decide) (lt8 (by decide)))) ?_) fun fc hfc => ?_
    · rintro p q ⟨i', j', rfl, ⟨h1, h2⟩, rfl⟩ ⟨i, j, rfl, ⟨h3, h4⟩, rfl⟩
      exact ⟨by omega, d41 _ (by omega), d41 _ (by omega)⟩
    have hf2 : 0 ≤ fc ∧ Sz 10 fc := by
      obtain ⟨p, q, ⟨i', j', rfl, ⟨h1, h2⟩, rfl⟩, ⟨i, j, rfl, ⟨h3, h4⟩, rfl⟩, rfl⟩ := hfc
      refine ⟨?_, s10 _ _ (by omega) (by omega) (by omega)⟩
      exact Rat.divInt_nonneg (by omega) (by omega)
    refine go_app1x rfl (List.Perm.refl _) (evx_makeK (fun (_ : Unit) (d : Int × Unit) => (⟨nmAt bs.length, iss, d.1, fc, cr⟩ : Bd)) (Ea.xe (ea_cons (ev_ixS (c := 97 + bs.length) ev_str (ev_var rfl) ?_ ?_) (ea_cons (ev_var rfl) ea_nil))) (eax_consx (evx_add (Ev.xe ev_int) (evx_draw (K := K) rfl (List.mem_cons_of_mem _ (List.mem_cons_self ..)) ev_int (by decide) (lt8 (by decide)))) (Ea.xe (ea_cons (ev_var rfl) (ea_cons (ev_to (u := tAny) (y := ()) ev_int fun _ _ _ => trivial) (ea_cons (ev_to (u := tAny) (y := ()) ev_int fun _ _ _ => trivial) (ea_cons (ev_to (u := tAny) (y := ()) ev_int fun _ _ _ => trivial) (ea_cons (ev_to (u := tAny) (y := ()) ev_str fun _ _ _ => trivial) (ea_cons (ev_to (u := tAny) (y := ()) ev_str fun _ _ _ => trivial) (ea_cons (ev_to (u := tAny) (y := ()) ev_int fun _ _ _ => trivial) (ea_cons (ev_to (u := tAny) (y := ()) ev_int fun _ _ _ => trivial) (ea_cons (ev_nil (K := K) (t := tAny)) (ea_cons (ev_to (u := tAny) (y := ()) (ev_tup (K := K) (α := Unit) (x := ()) (fs' := fun _ => _) (ea_cons ev_str (ea_cons (ev_fracI (K := K) ev_int) ea_nil)) rfl (by show 2 ≤ sizeLine; decide)) fun _ _ _ => trivial) (ea_cons (ev_nil (K := K) (t := tAny)) (ea_cons (ev_var rfl) (ea_cons (ev_nil (K := K) (t := tAny)) ea_nil))))))))))))))) ?_ ?_ ?_ ?_) ?_ fun b hb σ H o => ?_
    · show 6 ≤ sizeLine
      decide
    · refine atI_nat (j := bs.length) ?_
      have key : ∀ n, n < 6 → ("abcdef" : Str).cps.toList[n]? = some (97 + n) := by decide
      exact key _ l6
    · intro _; rfl
    · intro _; rfl
    · intro H v c e us ws f1 f2
      exact ⟨us ++ ws, rfl, Fits.append f1 f2⟩
    · intro _ _ _ _; trivial
    · rw [sizeLine_eq]; omega
    · obtain ⟨_, ⟨u, _⟩, _, ⟨⟨i, j, rfl, ⟨h3, h4⟩, rfl⟩, _⟩, rfl⟩ := hb
      refine ⟨bs ++ [_], ⟨by rw [List.length_append]; rfl, ?_⟩, o.sb (by walk_at "sb")⟩
      refine ⟨by rw [List.length_append, List.length_singleton]; omega, fun b m => ?_, ?_⟩
      · rcases List.mem_append.mp m with m | m
        · exact hf.ok b m
        · rw [List.mem_singleton.mp m]
          exact ⟨by show (0 : Int) ≤ 1 + j; omega, by show 1 + j < 1000; omega, hf2.1, hf2.2, pc⟩
      · rw [List.map_append, hf.nm, List.length_append, List.length_singleton, List.range_succ, List.map_append]
        rfl
  · obtain ⟨n, ⟨i, j, rfl, ⟨h1, h2⟩, rfl⟩, rfl⟩ := hX
    obtain ⟨_, hf⟩ := hk
    dsimp only
    exact go_at o (go_frz (K := K) (i := 1) (t := tBd K CB) (xs := bs) rfl (fun a m => hm a m) np (fun a m => hm a m) (go_end (ev_var (n := 1) rfl) out (hp := hf) (hC := fun c z => z)))
end
end Cs
set_option maxHeartbeats 4000000
namespace Cs
open PySem PySem.Spec PyProof.Rows L2
local macro_rules | `(tactic| walk_at "rd") => `(tactic| (first
  | (refine ⟨_, rfl, ?_⟩)
  | (refine ⟨_, _, rfl, rfl, ?_⟩)
  | (refine .inl ⟨_, rfl, ?_⟩)
  | (refine .inr ⟨_, rfl, ?_⟩)
  | (refine ⟨_, _, _, _, rfl, rfl, SqL.of upd_same, rfl, ?_⟩)
  | (refine ⟨_, _, _, _, rfl, rfl, upd_same, rfl, ?_⟩)
  | (refine ⟨_, ?xs, _, ?v, rfl, rfl, ?h, ?x, ?_⟩; (case h => first | exact SqL.of (by assumption) | exact SqT.of (by assumption) | assumption); (case x => first | rfl | exact atI_nat (j := 0) rfl | exact atI_nat (j := 1) rfl))))
local macro_rules | `(tactic| walk_at "isi") => `(tactic| (first
  | (refine ⟨_, _, _, _, _, rfl, .ty _, .base (.int _), kit_ty kit_it, ?_⟩)
  | (refine ⟨_, _, _, _, _, rfl, .ty _, .base (.int _), kit_ty kit_ib, ?_⟩)
  | (refine ⟨_, _, _, _, _, rfl, .ty _, .base (.int _), kit_ty kit_ii, ?_⟩)
  | (refine ⟨_, _, _, _, _, rfl, .ty _, .base (.bl _), kit_ty kit_bt, ?_⟩)
  | (refine ⟨_, _, _, _, _, rfl, .ty _, .base (.bl _), kit_ty kit_bb, ?_⟩)
  | (refine ⟨_, _, _, _, _, rfl, .ty _, .base (.bl _), kit_ty kit_bi, ?_⟩)))
local macro_rules | `(tactic| walk_at "ev") => `(tactic| (first
  | exact ev_var rfl
  | exact ev_int
  | exact ev_str
  | exact ev_bl
  | exact ev_non
  | (refine ev_add ?_ ?_ <;> walk_at "ev")
  | (refine ev_sub ?_ ?_ <;> walk_at "ev")
  | (refine ev_mul ?_ ?_ ?_ <;> (try walk_at "ev"))
  | (refine ev_neg ?_ <;> walk_at "ev")
  | (refine ev_num ?_ <;> walk_at "ev")
  | (refine ev_den ?_ <;> walk_at "ev")
  | (refine ev_cmp ?_ ?_ <;> walk_at "ev")
  | (refine ev_eqI ?_ ?_ <;> walk_at "ev")
  | (refine ev_eqS ?_ ?_ <;> walk_at "ev")
  | (refine ev_neI ?_ ?_ <;> walk_at "ev")
  | (refine ev_neS ?_ ?_ <;> walk_at "ev")
  | (refine ev_inS ?_ ?_ <;> walk_at "ev")
  | (refine ev_niS ?_ ?_ <;> walk_at "ev")
  | (refine ev_len ?_ <;> walk_at "ev")
  | (refine ev_list ?_ <;> walk_at "ev")
  | (refine ev_listRev ?_ <;> walk_at "ev")
  | (refine ev_int1 ?_ <;> walk_at "ev")))
local macro_rules | `(tactic| walk_at "ea") => `(tactic| (first
  | exact ea_nil
  | (refine ea_cons ?_ ?_ <;> (first | walk_at "ev" | walk_at "ea" | skip))))
local macro_rules | `(tactic| walk_at "sb") => `(tactic| (first | exact True.intro | (refine And.intro rfl ?_; walk_at "sb")))
section
variable {P : Program} {w : World} {K : PySem.W.Frag} {mg : Str → Option Value} {base : Heap}
abbrev spLAdd (K : PySem.W.Frag) : Sp := spP (AFr2 K) (tFr K) (fun x => Sz 1000 x.1 ∧ Sz 1000 x.2) (fun x => x.1 + x.2)
abbrev spLOrder (K : PySem.W.Frag) : Sp := spP (AFr2 K) tInt (fun x => Sz 1000 x.1 ∧ Sz 1000 x.2) (fun x => cmpR x.1 x.2)
theorem s24 {n : Nat} {i : Int} (h : i.natAbs < 2 ^ n) (k : n ≤ 2400) : i.natAbs < 2 ^ 2400 := Nat.lt_of_lt_of_le h (Nat.pow_le_pow_right (by decide) k)
abbrev sLAdd : Stmt := topS 30
theorem scLAdd : FnScope ["a", "b"] ["a", "b"] (defScope sLAdd) := ⟨rfl, rfl, rfl, by decide +kernel, rfl, by decide +kernel, by decide +kernel⟩
theorem ok_ladd {f : Addr} {fd : FuncData} {k : Nat} (F : Fun K "_law_add" "_law_add" sLAdd f fd) (c_law_ratio : Cal P w K mg base k "_law_ratio" ["p", "q"] spRatio) : FnOk P w K mg base CX0 (k + 1) f fd ["a", "b"] (spLAdd K) := by
  refine ok_P F scLAdd (fun _ => rfl) fun cdv A outer s H0 S x Q E hr hp out => ⟨_, (pss_one (ps_ret (pe_cal c_law_ratio hr (by rfl) (pa_cons (pe_op op_add (pe_op op_mulA (pe_ix ix_tup (pv 0) pe_int (fun _ _ => rfl)) (pe_ix ix_tup (pv 1) pe_int (fun _ _ => rfl))) (pe_op op_mulA (pe_ix ix_tup (pv 1) pe_int (fun _ _ => rfl)) (pe_ix ix_tup (pv 0) pe_int (fun _ _ => rfl)))) (pa_cons (pe_op op_mulA (pe_ix ix_tup (pv 0) pe_int (fun _ _ => rfl)) (pe_ix ix_tup (pv 1) pe_int (fun _ _ => rfl))) pa_nil))))), ?_⟩
  obtain ⟨h, g⟩ := hp
  refine go_end (y := x.1 + x.2) (ev_is (ev_ratio (ev_add (ev_mul (ev_num (ev_var rfl)) (ev_den (ev_var rfl)) ?_) (ev_mul (ev_num (ev_var rfl)) (ev_den (ev_var rfl)) ?_)) (ev_mul (ev_den (ev_var rfl)) (ev_den (ev_var rfl)) ?_) ?_ ?_ ?_) ?_) out
  · exact mulZ h.nn g.dd
  · exact mulZ g.nn h.dd
  · exact mulZ h.dd g.dd
  · exact Int.mul_ne_zero (den_ne _) (den_ne _)
  · exact s24 (n := 2001) (add_lt (pow_lt h.nn g.dd) (pow_lt g.nn h.dd)) (by decide)
  · exact s24 (pow_lt h.dd g.dd) (by decide)
  · exact add_div _ _
abbrev sLOrder : Stmt := topS 31
theorem scLOrder : FnScope ["a", "b", "difference"] ["a", "b"] (defScope sLOrder) := ⟨rfl, rfl, rfl, by decide +kernel, rfl, by decide +kernel, by decide +kernel⟩
theorem ok_lorder {f : Addr} {fd : FuncData} {k : Nat} (F : Fun K "_law_order" "_law_order" sLOrder f fd) (z_int : mg "int" = none) : FnOk P w K mg base CX0 (k + 1) f fd ["a", "b"] (spLOrder K) := by
  refine ok_P F scLOrder (fun _ => rfl) fun cdv A outer s H0 S x Q E hr hp out => ⟨_, (pss_cons (ps_set (i := 2) scLOrder.nd rfl (Or.inl rfl) (pe_op op_sub (pe_op op_mulA (pe_ix ix_tup (pv 0) pe_int (fun _ _ => rfl)) (pe_ix ix_tup (pv 1) pe_int (fun _ _ => rfl))) (pe_op op_mulA (pe_ix ix_tup (pv 1) pe_int (fun _ _ => rfl)) (pe_ix ix_tup (pv 0) pe_int (fun _ _ => rfl)))))
      (pss_one (ps_ret (pe_op op_sub (pe_callTy call_int1 (by rfl) z_int (by decide +kernel) (pa_cons (pe_cmpR op_gt (pv 2) pe_int (nomark _)) pa_nil)) (pe_callTy call_int1 (by rfl) z_int (by decide +kernel) (pa_cons (pe_cmpR op_lt (pv 2) pe_int (nomark _)) pa_nil)))))), ?_⟩
  obtain ⟨h, g⟩ := hp
  refine go_set (ev_sub (ev_mul (ev_num (ev_var rfl)) (ev_den (ev_var rfl)) ?_) (ev_mul (ev_num (ev_var rfl)) (ev_den (ev_var rfl)) ?_)) ?_
  · exact mulZ h.nn g.dd
  · exact mulZ g.nn h.dd
  refine go_end (y := cmpR x.1 x.2) (ev_is (ev_sub (ev_intB (ev_cmp (ev_var rfl) ev_int)) (ev_intB (ev_cmp (ev_var rfl) ev_int))) ?_) out
  unfold cmpR
  generalize x.1.num * (x.2.den : Int) - x.2.num * (x.1.den : Int) = d
  show (if decide (0 < d) = true then (1 : Int) else 0) - (if decide (d < 0) = true then 1 else 0) = d.sign
  rcases Int.lt_trichotomy d 0 with q | q | q
  · rw [Int.sign_eq_neg_one_of_neg q, decide_eq_true q, decide_eq_false (by omega)]; rfl
  · subst q; rfl
  · rw [Int.sign_eq_one_of_pos q, decide_eq_true q, decide_eq_false (by omega)]; rfl
abbrev sLTotal : Stmt := topS 32
theorem scLTotal : FnScope ["values", "result", "value"] ["values"] (defScope sLTotal) := ⟨rfl, rfl, rfl, by decide +kernel, rfl, by decide +kernel, by decide +kernel⟩
theorem ok_ltotal {f : Addr} {fd : FuncData} {k : Nat} (F : Fun K "_law_total" "_law_total" sLTotal f fd) (c_law_add : Cal P w K mg base k "_law_add" ["a", "b"] (spLAdd K)) : FnOk P w K mg base CX0 (k + 1) f fd ["values"] (spTotal K) := by
  refine ok_P F scLTotal (fun _ => rfl) fun cdv A outer s H0 S xs Q E hr hp out => ⟨_, (pss_cons (ps_set (i := 1) scLTotal.nd rfl (Or.inl rfl) (pe_tup (pa_cons pe_int (pa_cons pe_int pa_nil))))
      (pss_cons (ps_for PassesOwn.never rfl (pi_list (pv 0)) (pg_name (i := 2) scLTotal.nd rfl (Or.inl rfl)) (pss_one (ps_set (i := 1) scLTotal.nd rfl (Or.inl rfl) (pe_cal c_law_add hr (by rfl) (pa_cons (pv 1) (pa_cons (pv 2) pa_nil))))))
      (pss_one (ps_ret (pv 1))))), ?_⟩
  obtain ⟨hz, hl⟩ := hp
  refine go_set (x := (0 : Rat)) (ev_is (ev_fracI (K := K) ev_int) rfl) ?_
  refine go_seq (go_for (iv_list (ev_var rfl)) tgt_name (fun k (_ : Unit) => ([], [some ((tLs K (tFr K)).is xs), some ((tFr K).is (rpre xs k)), none])) (fun _ _ => True) () trivial (fun σ H o => o.sb ?_) (fun k _ x f hx _ => ?_) (fun _ _ σ H o => ?_))
  · walk_at "sb"
  · refine go_set1 (ev_call (z := (_, _)) (ea_cons (ev_var rfl) (ea_cons (ev_var rfl) ea_nil)) ?_) fun σ H o => ⟨(), trivial, o.sb ?_⟩
    · have hk : k < xs.length := (List.getElem?_eq_some_iff.mp hx).1
      exact ⟨(rpre_sz hz k (by omega)).mono (by omega), (hz x (List.mem_of_getElem? hx)).mono (by decide)⟩
    · show Sb [_, some ((tFr K).is (rpre xs k + x)), _] [_, some ((tFr K).is (rpre xs (k + 1))), none]
      rw [rpre_succ hx]
      walk_at "sb"
  · exact go_at o (go_end (y := rpre xs xs.length) (ev_var rfl) out (hp := rpre_all xs))
abbrev sLSize : Stmt := topS 34
theorem scLSize : FnScope ["bond"] ["bond"] (defScope sLSize) := ⟨rfl, rfl, rfl, by decide +kernel, rfl, by decide +kernel, by decide +kernel⟩
theorem ok_lsize {f CB : Addr} {fd : FuncData} {k : Nat} (F : Fun K "_law_size" "_law_size" sLSize f fd) (BC : BondC K CB) (c_law_ratio : Cal P w K mg base k "_law_ratio" ["p", "q"] spRatio) : FnOk P w K mg base CX0 (k + 1) f fd ["bond"] (spSize K CB) := by
  refine ok_P F scLSize (fun _ => rfl) fun cdv A outer s H0 S b Q E hr hp out => ⟨_, (pss_one (ps_ret (pe_cal c_law_ratio hr (by rfl) (pa_cons (pe_op op_mulA (pe_fld (pv 0) rfl) (pe_ix ix_tup (pe_fld (pv 0) rfl) pe_int (fun _ _ => rfl))) (pa_cons (pe_ix ix_tup (pe_fld (pv 0) rfl) pe_int (fun _ _ => rfl)) pa_nil))))), ?_⟩
  have hu : b.units.natAbs < 2 ^ 1000 := Nat.lt_of_lt_of_le (show b.units.natAbs < 2 ^ 10 by have := hp.u0; have := hp.u1; show b.units.natAbs < 1024; omega) (Nat.pow_le_pow_right (by decide) (by decide))
  have hf := hp.fs.mono (show 10 ≤ 1000 by decide)
  refine go_end (y := sizeB b) (ev_is (ev_ratio (ev_mul (ev_fld 2 (ev_var rfl) BC.cl BC.n2) (ev_num (ev_fld 3 (ev_var rfl) BC.cl BC.n3)) ?_) (ev_den (ev_fld 3 (ev_var rfl) BC.cl BC.n3)) ?_ ?_ ?_) ?_) out
  · exact mulZ hu hf.nn
  · exact den_ne _
  · exact s24 (pow_lt hu hf.nn) (by decide)
  · exact s24 hf.dd (by decide)
  · have := mul_div (b.units : Rat) b.face
    rw [Rat.num_intCast, Rat.den_intCast] at this
    rw [← show Rat.divInt (b.units * b.face.num) (((1 : Nat) : Int) * (b.face.den : Int)) = sizeB b from this]
    congr 1
    omega
theorem name_inj {bs : List Bd} (nd : (bs.map Bd.name).Nodup) {b c : Bd} (hb : b ∈ bs) (hc : c ∈ bs) (e : b.name = c.name) : b = c := by
  induction bs with
  | nil => cases hb
  | cons x bs ih =>
    rw [List.map_cons, List.nodup_cons] at nd
    rcases List.mem_cons.mp hb with q | q <;> rcases List.mem_cons.mp hc with q' | q'
    · rw [q, q']
    · subst q; exact absurd (e ▸ List.mem_map.mpr ⟨c, q', rfl⟩) nd.1
    · subst q'; exact absurd (e ▸ List.mem_map.mpr ⟨b, q, rfl⟩) nd.1
    · exact ih nd.2 q q'
theorem only_name {bs : List Bd} (nd : (bs.map Bd.name).Nodup) {b : Bd} (hb : b ∈ bs) : (bs.filter fun r => decide (r.name = b.name)) = [b] := by
  induction bs with
  | nil => cases hb
  | cons x bs ih =>
    rw [List.map_cons, List.nodup_cons] at nd
    rcases List.mem_cons.mp hb with q | q
    · subst q
      rw [List.filter_cons_of_pos (by simp)]
      congr 1
      refine List.filter_eq_nil_iff.mpr fun c m => ?_
      simp only [decide_eq_true_eq]
      exact fun e => nd.1 (e ▸ List.mem_map.mpr ⟨c, m, rfl⟩)
    · rw [List.filter_cons_of_neg, ih nd.2 q]
      simp only [decide_eq_true_eq]
      exact fun e => nd.1 (e ▸ List.mem_map.mpr ⟨b, q, rfl⟩)
structure LbArgs where
  bs : List Bd
  b : Bd
  ns : List Str
structure LbOk (x : LbArgs) : Prop where
  m : x.b ∈ x.bs
  nd : (x.bs.map Bd.name).Nodup
  ni : x.b.name ∉ x.ns
  ok : ∀ b ∈ x.bs, BdOk b
  l : x.bs.length ≤ 20
abbrev spLBound (K : PySem.W.Frag) (CB : Addr) : Sp := spP (fun x : LbArgs => [(tLs K (tBd K CB)).is x.bs, tSt.is x.b.name, (tLs K tSt).is x.ns]) tBl LbOk (fun x => boundB x.b (inN x.ns x.bs))
abbrev sLBound : Stmt := topS 35
theorem scLBound : FnScope ["bonds", "name", "names", "bond", "others", "row"] ["bonds", "name", "names"] (defScope sLBound) := ⟨rfl, rfl, rfl, by decide +kernel, rfl, by decide +kernel, by decide +kernel⟩
theorem ok_lbound {f CB : Addr} {fd : FuncData} {k : Nat} (F : Fun K "_law_bound" "_law_bound" sLBound f fd) (BC : BondC K CB) (c_law_size : Cal P w K mg base k "_law_size" ["bond"] (spSize K CB)) (c_law_total : Cal P w K mg base k "_law_total" ["values"] (spTotal K)) (c_law_order : Cal P w K mg base k "_law_order" ["a", "b"] (spLOrder K)) : FnOk P w K mg base CX0 (k + 1) f fd ["bonds", "name", "names"] (spLBound K CB) := by
  refine ok_P F scLBound (fun _ => rfl) fun cdv A outer s H0 S x Q E hr hp out => ⟨_, (pss_cons (ps_set (i := 3) scLBound.nd rfl (Or.inr rfl) (pe_ix ix_list (pe_lc (own := [("row", 5)]) (g := gName 5)  rfl scLBound.nd (pi_list (pv 0)) (blkOk_by (own := [("row", 5)]) (N := ["bonds", "name", "names", "bond", "others", "row"]) (sc := defScope sLBound) (by decide +kernel)) (fun _ _ _ _ _ => (pg_name (i := 5) scLBound.nd rfl (Or.inl rfl))) (fun _ _ _ _ _ => (pts_one (pt_cmpR op_eq (pe_fldK (K := K) rfl (pv 5) rfl) (pv 1) (nomark _)))) (fun _ _ _ _ _ => (pv 5))) pe_int (fun _ _ => rfl)))
      (pss_cons (ps_if (pt_cmpR op_isN (pe_fld (pv 3) rfl) pe_non (nomark _)) (pss_one (ps_ret pe_bl)) pss_nil)
      (pss_cons (ps_setLc (i := 4) (own := [("row", 5)]) (g := gName 5)  rfl scLBound.nd rfl rfl (sw_true rfl rfl rfl (by decide +kernel)) (pi_list (pv 0)) (blkOk_by (own := [("row", 5)]) (N := ["bonds", "name", "names", "bond", "others", "row"]) (sc := defScope sLBound) (by decide +kernel)) (fun _ _ _ _ _ => (pg_name (i := 5) scLBound.nd rfl (Or.inl rfl))) (fun _ _ _ _ _ => (pts_one (PW.pt (pw_and (pt_cmpR (op_inK (K := K) rfl) (pe_fldK (K := K) rfl (pv 5) rfl) (pv 2) (by rfl)) (pw_and (pt_cmpR op_ne (pe_fldK (K := K) rfl (pv 5) rfl) (pv 1) (nomark _)) (pw_and1 (pt_cmpR op_eq (pe_fldK (K := K) rfl (pv 5) rfl) (pe_fldK (K := K) rfl (pv 3) rfl) (nomark _)))))))) (fun _ _ _ _ _ => (pv 5)))
      (pss_one (ps_ret (pe_cmpR op_gt (pe_cal c_law_order hr (by rfl) (pa_cons (pe_cal c_law_total hr (by rfl) (pa_cons (pe_lc (own := [("row", 5)]) (g := gName 5) (tt := tYes) rfl scLBound.nd (pi_list (pv 4)) (blkOk_by (own := [("row", 5)]) (N := ["bonds", "name", "names", "bond", "others", "row"]) (sc := defScope sLBound) (by decide +kernel)) (fun _ _ _ _ _ => (pg_name (i := 5) scLBound.nd rfl (Or.inl rfl))) (fun _ _ _ _ _ => pts_nil) (fun _ _ _ _ _ => (pe_cal c_law_size hr (by rfl) (pa_cons (pv 5) pa_nil)))) pa_nil)) (pa_cons (pe_fld (pv 3) rfl) pa_nil))) pe_int (nomark _))))))), ?_⟩
  obtain ⟨bs, b, ns⟩ := x
  obtain ⟨m, nd, ni, ok, l⟩ := hp
  have m : b ∈ bs := m
  have nd : (bs.map Bd.name).Nodup := nd
  have ni : b.name ∉ ns := ni
  have ok : ∀ b ∈ bs, BdOk b := ok
  have l : bs.length ≤ 20 := l
  have lz : bs.length < sizeLine := by rw [sizeLine_eq]; omega
  refine go_set (x := b) (ev_ixL (ev_lcf (K := K) (iv_list (ev_var rfl)) tgt_name (by simp) ?_ (fun _ _ _ x _ xm => (et_of (ev_eqS (ev_fld 0 (ev_var rfl) BC.cl BC.n0) (ev_var rfl)))) (fun _ _ _ x _ xm px => (ev_var rfl))) ev_int ?_) ?_
  · exact lz
  · show atI ((bs.filter fun r => decide (r.name = b.name)).map fun r => r) 0 = some b
    rw [only_name nd m]
    rfl
  have hb := ok b m
  have sub : ∀ r ∈ ((inN ns bs).filter fun o => decide (o.issuer = b.issuer)).map sizeB, Sz 20 r := fun r mm => by
    obtain ⟨o, m1, rfl⟩ := List.mem_map.mp mm
    exact sizeB_sz (ok o (List.mem_filter.mp (List.mem_filter.mp m1).1).1)
  have len0 : ((inN ns bs).filter fun o => decide (o.issuer = b.issuer)).length ≤ 20 := Nat.le_trans (List.length_filter_le ..) (Nat.le_trans (List.length_filter_le ..) l)
  have len : (((inN ns bs).filter fun o => decide (o.issuer = b.issuer)).map sizeB).length ≤ 20 := by
    rw [List.length_map]
    exact len0
  have eqF : ((bs.filter fun r => decide (r.name ∈ ns) && (!decide (r.name = b.name) && decide (r.issuer = b.issuer))).map fun r => r) = (inN ns bs).filter fun o => decide (o.issuer = b.issuer) := by
    rw [List.map_id']
    unfold inN
    rw [List.filter_filter]
    refine List.filter_congr fun r mr => ?_
    by_cases q : r.name ∈ ns
    · have : r.name ≠ b.name := fun e => ni (e ▸ q)
      simp [q, this]
    · simp [q]
  obtain ⟨nm, iss, un, fc, cr⟩ := b
  cases cr with
  | none => exact go_ifr (et_isN (ev_fld 4 (ev_var rfl) BC.cl BC.n4)) (fun _ => go_end (y := false) ev_bl out) (fun h => by cases h)
  | some c =>
    refine go_ifr (et_isN (ev_fld 4 (ev_var rfl) BC.cl BC.n4)) (fun h => by cases h) (fun _ => ?_)
    refine go_set (x := (inN ns bs).filter fun o => decide (o.issuer = iss)) (ev_is (ev_lcf (K := K) (iv_list (ev_var rfl)) tgt_name (by simp) ?_ (fun _ _ _ x _ xm => (et_and (et_of (ev_inS (ev_fld 0 (ev_var rfl) BC.cl BC.n0) (ev_var rfl))) (fun qa => (et_and (et_of (ev_neS (ev_fld 0 (ev_var rfl) BC.cl BC.n0) (ev_var rfl))) (fun qb => (et_of (ev_eqS (ev_fld 1 (ev_var rfl) BC.cl BC.n1) (ev_fld 1 (ev_var rfl) BC.cl BC.n1)))))))) (fun _ _ _ x _ xm px => (ev_var rfl))) eqF) ?_
    · exact lz
    refine go_end (y := boundB ⟨nm, iss, un, fc, some c⟩ (inN ns bs)) (ev_is (ev_cmp (ev_call (z := (_, _)) (ea_cons (ev_call (z := _) (ea_cons (ev_lcm (K := K) (iv_list (ev_var rfl)) tgt_name (by simp) ?_ (fun _ _ _ x _ xm => (ev_call (z := _) (ea_cons (ev_var rfl) ea_nil) ?_))) ea_nil) ?_) (ea_cons (ev_some (ev_fld 4 (ev_var rfl) BC.cl BC.n4)) ea_nil)) ?_) ev_int) ?_) out
    · exact Nat.lt_of_le_of_lt len0 (by rw [sizeLine_eq]; omega)
    · exact ok x (List.mem_filter.mp (List.mem_filter.mp xm).1).1
    · exact ⟨sub, Nat.le_trans len (by decide)⟩
    · refine ⟨?_, (hb.cs c rfl).mono (by decide)⟩
      have h1 := rsum_sz sub
      exact h1.mono (by omega)
    · rfl
end
end Cs
set_option maxHeartbeats 4000000
namespace Cs
open PySem PySem.Spec PyProof.Rows L2
local macro_rules | `(tactic| walk_at "rd") => `(tactic| (first
  | (refine ⟨_, rfl, ?_⟩)
  | (refine ⟨_, _, rfl, rfl, ?_⟩)
  | (refine .inl ⟨_, rfl, ?_⟩)
  | (refine .inr ⟨_, rfl, ?_⟩)
  | (refine ⟨_, _, _, _, rfl, rfl, SqL.of upd_same, rfl, ?_⟩)
  | (refine ⟨_, _, _, _, rfl, rfl, upd_same, rfl, ?_⟩)
  | (refine ⟨_, ?xs, _, ?v, rfl, rfl, ?h, ?x, ?_⟩; (case h => first | exact SqL.of (by assumption) | exact SqT.of (by assumption) | assumption); (case x => first | rfl | exact atI_nat (j := 0) rfl | exact atI_nat (j := 1) rfl))))
local macro_rules | `(tactic| walk_at "isi") => `(tactic| (first
  | (refine ⟨_, _, _, _, _, rfl, .ty _, .base (.int _), kit_ty kit_it, ?_⟩)
  | (refine ⟨_, _, _, _, _, rfl, .ty _, .base (.int _), kit_ty kit_ib, ?_⟩)
  | (refine ⟨_, _, _, _, _, rfl, .ty _, .base (.int _), kit_ty kit_ii, ?_⟩)
  | (refine ⟨_, _, _, _, _, rfl, .ty _, .base (.bl _), kit_ty kit_bt, ?_⟩)
  | (refine ⟨_, _, _, _, _, rfl, .ty _, .base (.bl _), kit_ty kit_bb, ?_⟩)
  | (refine ⟨_, _, _, _, _, rfl, .ty _, .base (.bl _), kit_ty kit_bi, ?_⟩)))
local macro_rules | `(tactic| walk_at "ev") => `(tactic| (first
  | exact ev_var rfl
  | exact ev_int
  | exact ev_str
  | exact ev_bl
  | exact ev_non
  | (refine ev_add ?_ ?_ <;> walk_at "ev")
  | (refine ev_sub ?_ ?_ <;> walk_at "ev")
  | (refine ev_mul ?_ ?_ ?_ <;> (try walk_at "ev"))
  | (refine ev_neg ?_ <;> walk_at "ev")
  | (refine ev_num ?_ <;> walk_at "ev")
  | (refine ev_den ?_ <;> walk_at "ev")
  | (refine ev_cmp ?_ ?_ <;> walk_at "ev")
  | (refine ev_eqI ?_ ?_ <;> walk_at "ev")
  | (refine ev_eqS ?_ ?_ <;> walk_at "ev")
  | (refine ev_neI ?_ ?_ <;> walk_at "ev")
  | (refine ev_neS ?_ ?_ <;> walk_at "ev")
  | (refine ev_inS ?_ ?_ <;> walk_at "ev")
  | (refine ev_niS ?_ ?_ <;> walk_at "ev")
  | (refine ev_len ?_ <;> walk_at "ev")
  | (refine ev_list ?_ <;> walk_at "ev")
  | (refine ev_listRev ?_ <;> walk_at "ev")
  | (refine ev_int1 ?_ <;> walk_at "ev")))
local macro_rules | `(tactic| walk_at "ea") => `(tactic| (first
  | exact ea_nil
  | (refine ea_cons ?_ ?_ <;> (first | walk_at "ev" | walk_at "ea" | skip))))
local macro_rules | `(tactic| walk_at "sb") => `(tactic| (first | exact True.intro | (refine And.intro rfl ?_; walk_at "sb")))
section
variable {P : Program} {w : World} {K : PySem.W.Frag} {mg : Str → Option Value} {base : Heap}
theorem kit_st : kitB "str" "tuple" = some false := by decide +kernel
theorem kit_sb : kitB "str" "bool" = some false := by decide +kernel
theorem kit_si : kitB "str" "int" = some false := by decide +kernel
theorem kit_ss : kitB "str" "str" = some true := by decide +kernel
abbrev spSamR : Sp := fun vs H Q _ => ∃ x y : Str, vs = [.str x, .str y] ∧ Q (.bl (decide (x = y))) H
abbrev sSame : Stmt := topS 26
theorem scSame : FnScope ["actual", "due", "k"] ["actual", "due"] (defScope sSame) := ⟨rfl, rfl, rfl, by decide +kernel, rfl, by decide +kernel, by decide +kernel⟩
theorem ok_sameR {f : Addr} {fd : FuncData} {k : Nat} (F : Fun K "_law_same" "_law_same" sSame f fd) (z_isinstance : mg "isinstance" = none) (z_int : mg "int" = none) (z_bool : mg "bool" = none) (z_tuple : mg "tuple" = none) (z_str : mg "str" = none) : FnOk P w K mg base CX0 (k + 1) f fd ["actual", "due"] spSamR := by
  refine F.ok scSame (fun vs H Q E h => ?_) (fun cdv A outer s H vs Q E hr h => ?_)
  · obtain ⟨x, y, rfl, _⟩ := h
    rfl
  · refine ⟨_, (pss_cons (ps_if (pt_val (pe_callB call_isi (by rfl) z_isinstance (by decide +kernel) (pa_cons (pv 1) (pa_cons (pe_bltn (v := .ty "tuple") (by rfl) z_tuple (by decide +kernel) rfl) pa_nil)))) pss_never pss_nil)
      (pss_cons (ps_if (PW.pt (pw_or (pt_val (pe_callB call_isi (by rfl) z_isinstance (by decide +kernel) (pa_cons (pv 1) (pa_cons (pe_bltn (v := .ty "bool") (by rfl) z_bool (by decide +kernel) rfl) pa_nil)))) (pw_or1 (pt_val (pe_callB call_isi (by rfl) z_isinstance (by decide +kernel) (pa_cons (pv 0) (pa_cons (pe_bltn (v := .ty "bool") (by rfl) z_bool (by decide +kernel) rfl) pa_nil))))))) (pss_one (ps_ret (pe_and (pe_callB call_isi (by rfl) z_isinstance (by decide +kernel) (pa_cons (pv 1) (pa_cons (pe_bltn (v := .ty "bool") (by rfl) z_bool (by decide +kernel) rfl) pa_nil))) (pe_and (pe_callB call_isi (by rfl) z_isinstance (by decide +kernel) (pa_cons (pv 0) (pa_cons (pe_bltn (v := .ty "bool") (by rfl) z_bool (by decide +kernel) rfl) pa_nil))) (pe_one (pe_cmpR op_eq (pv 1) (pv 0) (nomark _))))))) pss_nil)
      (pss_cons (ps_if (pt_val (pe_callB call_isi (by rfl) z_isinstance (by decide +kernel) (pa_cons (pv 1) (pa_cons (pe_bltn (v := .ty "int") (by rfl) z_int (by decide +kernel) rfl) pa_nil)))) (pss_one (ps_ret (pe_and (pe_callB call_isi (by rfl) z_isinstance (by decide +kernel) (pa_cons (pv 0) (pa_cons (pe_bltn (v := .ty "int") (by rfl) z_int (by decide +kernel) rfl) pa_nil))) (pe_one (pe_cmpR op_eq (pv 0) (pv 1) (nomark _)))))) pss_nil)
      (pss_cons (ps_if (pt_val (pe_callB call_isi (by rfl) z_isinstance (by decide +kernel) (pa_cons (pv 1) (pa_cons (pe_bltn (v := .ty "str") (by rfl) z_str (by decide +kernel) rfl) pa_nil)))) (pss_one (ps_ret (pe_and (pe_callB call_isi (by rfl) z_isinstance (by decide +kernel) (pa_cons (pv 0) (pa_cons (pe_bltn (v := .ty "str") (by rfl) z_str (by decide +kernel) rfl) pa_nil))) (pe_one (pe_cmpR op_eq (pv 0) (pv 1) (nomark _)))))) pss_nil)
      (pss_one (ps_ret (pe_and (pe_cmpR op_isN (pv 1) pe_non (nomark _)) (pe_one (pe_cmpR op_isN (pv 0) pe_non (nomark _)))))))))), ?_⟩
    obtain ⟨x, y, rfl, out⟩ := h
    repeat (first | walk_at "rd" | refine ⟨_, _, _, _, _, rfl, .ty _, .base (.str _), kit_ty kit_st, ?_⟩ | refine ⟨_, _, _, _, _, rfl, .ty _, .base (.str _), kit_ty kit_sb, ?_⟩ | refine ⟨_, _, _, _, _, rfl, .ty _, .base (.str _), kit_ty kit_si, ?_⟩ | refine ⟨_, _, _, _, _, rfl, .ty _, .base (.str _), kit_ty kit_ss, ?_⟩ | refine iteF ?_ | refine iteT ?_)
    refine ⟨rfl, ?_⟩
    rw [show decide (V.str x = V.str y) = decide (x = y) from decide_eq_decide.mpr ⟨fun z => V.str.inj z, fun z => congrArg V.str z⟩]
    exact out
abbrev spSamS : Sp := spP (fun x : Str × Str => [tSt.is x.1, tSt.is x.2]) tBl (fun _ => True) (fun x => decide (x.1 = x.2))
theorem ok_sameS {f : Addr} {fd : FuncData} {k : Nat} (h : FnOk P w K mg base CX0 k f fd ["actual", "due"] spSamR) : FnOk P w K mg base CX0 k f fd ["actual", "due"] spSamS := h.imp fun vs H Q E q => by
  obtain ⟨S, x, al, nd, sub, rs, ft, _, out⟩ := q
  cases vs with
  | nil => exact ft.elim
  | cons v1 vs => cases vs with
    | nil => exact ft.2.elim
    | cons v2 vs => cases vs with
      | cons _ _ => exact ft.2.2.elim
      | nil =>
        obtain ⟨f1, f2, _⟩ := ft
        obtain rfl : v1 = .str x.1 := f1
        obtain rfl : v2 = .str x.2 := f2
        exact ⟨x.1, x.2, rfl, out (V.bl (decide (x.1 = x.2))) (decide (x.1 = x.2)) H rfl Bt.refl (fun a m => nomatch m) (fun r m => nomatch m) rfl⟩
abbrev spSamL (K : PySem.W.Frag) : Sp := spP (fun x : List Str × List Str => [(tLs K tSt).is x.1, (tLs K tSt).is x.2]) tBl (fun x => x.2.length ≤ 100) (fun x => decide (x.1 = x.2))
abbrev sSameL : Stmt := topS 27
theorem scSameL : FnScope ["actual", "due", "k"] ["actual", "due"] (defScope sSameL) := ⟨rfl, rfl, rfl, by decide +kernel, rfl, by decide +kernel, by decide +kernel⟩
theorem ok_samL {f : Addr} {fd : FuncData} {k : Nat} (F : Fun K "_law_same_list" "_law_same_list" sSameL f fd) (c_law_same : Cal P w K mg base k "_law_same" ["actual", "due"] spSamS) (z_isinstance : mg "isinstance" = none) (z_list : mg "list" = none) (z_len : mg "len" = none) (z_range : mg "range" = none) (kL : PySem.W.kitOne K (.type "list") (.type "list") = some true) : FnOk P w K mg base CX0 (k + 1) f fd ["actual", "due"] (spSamL K) := by
  refine ok_P F scSameL (fun _ => rfl) fun cdv A outer s H0 S x Q E hr hp out => ⟨_, (pss_cons (ps_if (PW.pt (pw_or (pt_not (pt_val (pe_callB call_isi (by rfl) z_isinstance (by decide +kernel) (pa_cons (pv 0) (pa_cons (pe_bltn (v := .ty "list") (by rfl) z_list (by decide +kernel) rfl) pa_nil))))) (pw_or1 (pt_cmpR op_ne (pe_callB call_len_seq (by rfl) z_len PySem.boot_len (pa_cons (pv 0) pa_nil)) (pe_callB call_len_seq (by rfl) z_len PySem.boot_len (pa_cons (pv 1) pa_nil)) (nomark _))))) (pss_one (ps_ret pe_bl)) pss_nil)
      (pss_cons (ps_for PassesOwn.never rfl (pi_range1 rfl z_range (pa_cons (pe_callB call_len_seq (by rfl) z_len PySem.boot_len (pa_cons (pv 1) pa_nil)) pa_nil)) (pg_name (i := 2) scSameL.nd rfl (Or.inl rfl)) (pss_one (ps_if (pt_not (pt_val (pe_cal c_law_same hr (by rfl) (pa_cons (pe_ix ix_list (pv 0) (pv 2) (fun _ _ => rfl)) (pa_cons (pe_ix ix_list (pv 1) (pv 2) (fun _ _ => rfl)) pa_nil))))) (pss_one (ps_ret pe_bl)) pss_nil)))
      (pss_one (ps_ret pe_bl)))), ?_⟩
  obtain ⟨xs, ys⟩ := x
  have hp : ys.length ≤ 100 := hp
  refine go_ifr (et_or (et_not (et_B (ev_isL (ev_var rfl) rfl kL))) (fun qa => (et_of (ev_neI (ev_len (ev_var rfl)) (ev_len (ev_var rfl)))))) (fun h => ?_) (fun h => ?_)
  · have hne : xs ≠ ys := fun e => by
      subst e
      simp at h
    exact go_end (y := false) ev_bl out (hp := (decide_eq_false hne).symm)
  have hl : xs.length = ys.length := by
    simp at h
    omega
  refine go_seq (go_for (iv_range1 (ev_len (ev_var rfl)) ?_ ?_) tgt_name (fun k (_ : Unit) => ([], [some ((tLs K tSt).is xs), some ((tLs K tSt).is ys), none])) (fun k _ => xs.take k = ys.take k) () rfl (fun σ H o => o.sb (by walk_at "sb")) (fun k _ x f hx hk => ?_) (fun _ hk σ H o => ?_))
  · show -2 ^ 62 ≤ ((ys.length : Nat) : Int)
    omega
  · show ((ys.length : Nat) : Int) < 2 ^ 62
    omega
  · have hx : (((List.range ((ys.length : Nat) : Int).toNat).map fun (i : Nat) => (i : Int))[k]?) = some x := hx
    have hk2 : k < ys.length := by
      have := (List.getElem?_eq_some_iff.mp hx).1
      simpa using this
    obtain rfl : x = (k : Int) := by
      rw [List.getElem?_map, List.getElem?_range (by omega)] at hx
      exact (Option.some.inj hx).symm
    have e1 : xs[k]? = some (xs[k]'(by omega)) := List.getElem?_eq_getElem (by omega)
    have e2 : ys[k]? = some ys[k] := List.getElem?_eq_getElem hk2
    refine go_if (b := !decide (xs[k]'(by omega) = ys[k])) (et_not (et_B (ev_call (z := (_, _)) (ea_cons (ev_ixL (ev_var rfl) (ev_var rfl) ?_) (ea_cons (ev_ixL (ev_var rfl) (ev_var rfl) ?_) ea_nil)) ?_))) (fun h => ?_) (fun h => go_next fun σ H o => ⟨(), ?_, o.sb (by walk_at "sb")⟩)
    · exact atI_nat e1
    · exact atI_nat e2
    · trivial
    · have h : (!decide (xs[k]'(by omega) = ys[k])) = true := h
      have hne : xs ≠ ys := fun e => by
        subst e
        simp at h
      exact go_end (y := false) ev_bl out (hp := (decide_eq_false hne).symm)
    · have h : (!decide (xs[k]'(by omega) = ys[k])) = false := h
      have h : xs[k]'(by omega) = ys[k] := by simpa using h
      rw [take_snoc e1, take_snoc e2, hk, h]
  · have hk : xs.take ((List.range ((ys.length : Nat) : Int).toNat).map fun (i : Nat) => (i : Int)).length = ys.take ((List.range ((ys.length : Nat) : Int).toNat).map fun (i : Nat) => (i : Int)).length := hk
    rw [List.length_map, List.length_range, show ((ys.length : Nat) : Int).toNat = ys.length from by omega, List.take_length, ← hl, List.take_length] at hk
    dsimp only at o ⊢
    exact go_at o (go_end (y := true) ev_bl out (hp := (decide_eq_true hk).symm))
end
end Cs
set_option maxHeartbeats 4000000
namespace Cs
open PySem PySem.Spec PyProof.Rows L2
local macro_rules | `(tactic| walk_at "rd") => `(tactic| (first
  | (refine ⟨_, rfl, ?_⟩)
  | (refine ⟨_, _, rfl, rfl, ?_⟩)
  | (refine .inl ⟨_, rfl, ?_⟩)
  | (refine .inr ⟨_, rfl, ?_⟩)
  | (refine ⟨_, _, _, _, rfl, rfl, SqL.of upd_same, rfl, ?_⟩)
  | (refine ⟨_, _, _, _, rfl, rfl, upd_same, rfl, ?_⟩)
  | (refine ⟨_, ?xs, _, ?v, rfl, rfl, ?h, ?x, ?_⟩; (case h => first | exact SqL.of (by assumption) | exact SqT.of (by assumption) | assumption); (case x => first | rfl | exact atI_nat (j := 0) rfl | exact atI_nat (j := 1) rfl))))
local macro_rules | `(tactic| walk_at "isi") => `(tactic| (first
  | (refine ⟨_, _, _, _, _, rfl, .ty _, .base (.int _), kit_ty kit_it, ?_⟩)
  | (refine ⟨_, _, _, _, _, rfl, .ty _, .base (.int _), kit_ty kit_ib, ?_⟩)
  | (refine ⟨_, _, _, _, _, rfl, .ty _, .base (.int _), kit_ty kit_ii, ?_⟩)
  | (refine ⟨_, _, _, _, _, rfl, .ty _, .base (.bl _), kit_ty kit_bt, ?_⟩)
  | (refine ⟨_, _, _, _, _, rfl, .ty _, .base (.bl _), kit_ty kit_bb, ?_⟩)
  | (refine ⟨_, _, _, _, _, rfl, .ty _, .base (.bl _), kit_ty kit_bi, ?_⟩)))
local macro_rules | `(tactic| walk_at "ev") => `(tactic| (first
  | exact ev_var rfl
  | exact ev_int
  | exact ev_str
  | exact ev_bl
  | exact ev_non
  | (refine ev_add ?_ ?_ <;> walk_at "ev")
  | (refine ev_sub ?_ ?_ <;> walk_at "ev")
  | (refine ev_mul ?_ ?_ ?_ <;> (try walk_at "ev"))
  | (refine ev_neg ?_ <;> walk_at "ev")
  | (refine ev_num ?_ <;> walk_at "ev")
  | (refine ev_den ?_ <;> walk_at "ev")
  | (refine ev_cmp ?_ ?_ <;> walk_at "ev")
  | (refine ev_eqI ?_ ?_ <;> walk_at "ev")
  | (refine ev_eqS ?_ ?_ <;> walk_at "ev")
  | (refine ev_neI ?_ ?_ <;> walk_at "ev")
  | (refine ev_neS ?_ ?_ <;> walk_at "ev")
  | (refine ev_inS ?_ ?_ <;> walk_at "ev")
  | (refine ev_niS ?_ ?_ <;> walk_at "ev")
  | (refine ev_len ?_ <;> walk_at "ev")
  | (refine ev_list ?_ <;> walk_at "ev")
  | (refine ev_listRev ?_ <;> walk_at "ev")
  | (refine ev_int1 ?_ <;> walk_at "ev")))
local macro_rules | `(tactic| walk_at "ea") => `(tactic| (first
  | exact ea_nil
  | (refine ea_cons ?_ ?_ <;> (first | walk_at "ev" | walk_at "ea" | skip))))
local macro_rules | `(tactic| walk_at "sb") => `(tactic| (first | exact True.intro | (refine And.intro rfl ?_; walk_at "sb")))
section
variable {P : Program} {w : World} {K : PySem.W.Frag} {mg : Str → Option Value} {base : Heap}
theorem ev_takeN {α : Type} {W : Wd} {ta tb : TE} {t : Ty α} {xs : List α} {n : Nat} (h : Ev W ta (tLs K t) xs) (hb : Ev W tb tInt (n : Int)) : Ev W (tSl (rSlL K) ta tNoPart (tPart tb)) (tLs K t) (xs.take n) := fun σ H o Q q =>
  evx_take (P := fun m => m = (n : Int)) h (hb.x rfl) (fun m e => by omega) σ H o Q fun v ys H' ⟨m, e, ey⟩ g r => by
    subst e
    subst ey
    exact q v H' g r
/-- what the law asks of one step of a row -/
def lbB (bs : List Bd) (z : Str) (pre : List Str) : Bool := bs.any fun b => decide (b.name = z) && boundB b (inN pre bs)
def stepB (bs : List Bd) (ow ex pre : List Str) (z : Str) : Bool := !decide (z ∈ pre) && (decide (z ∈ ow) || (!decide (z ∈ ex) && lbB bs z pre))
def IsRow (bs : List Bd) (ow ex row : List Str) : Prop := ∀ k z, row[k]? = some z → stepB bs ow ex (row.take k) z = true
theorem lbB_of {bs : List Bd} (nd : (bs.map Bd.name).Nodup) {b : Bd} (mb : b ∈ bs) (pre : List Str) : lbB bs b.name pre = boundB b (inN pre bs) := by
  unfold lbB
  rw [Bool.eq_iff_iff, List.any_eq_true]
  constructor
  · rintro ⟨c, mc, h⟩
    simp only [Bool.and_eq_true, decide_eq_true_eq] at h
    rw [← name_inj nd mc mb h.1]
    exact h.2
  · intro h
    exact ⟨b, mb, by simp [h]⟩
structure IrOk (x : DfArgs × List Str) : Prop where
  ok : ∀ b ∈ x.1.bs, BdOk b
  lb : x.1.bs.length ≤ 20
  nd : (x.1.bs.map Bd.name).Nodup
  sub : ∀ z ∈ x.2, z ∈ x.1.bs.map Bd.name
  lr : x.2.length ≤ 100
abbrev spIsRow (K : PySem.W.Frag) (CB : Addr) : Sp := spN (fun _ => []) (fun x : DfArgs × List Str => [(tLs K (tBd K CB)).is x.1.bs, (tLs K tSt).is x.1.ow, (tLs K tSt).is x.1.ex, (tLs K tSt).is x.2]) tBl IrOk (fun x y => y = true ↔ IsRow x.1.bs x.1.ow x.1.ex x.2)
abbrev sLIsRow : Stmt := topS 37
theorem scLIsRow : FnScope ["bonds", "own", "exempt", "row", "k"] ["bonds", "own", "exempt", "row"] (defScope sLIsRow) := ⟨rfl, rfl, rfl, by decide +kernel, rfl, by decide +kernel, by decide +kernel⟩
theorem ok_isrow {f CB : Addr} {fd : FuncData} {k : Nat} (F : Fun K "_law_is_row" "_law_is_row" sLIsRow f fd) (BC : BondC K CB) (c_law_bound : Cal P w K mg base k "_law_bound" ["bonds", "name", "names"] (spLBound K CB)) (z_len : mg "len" = none) (z_range : mg "range" = none) : FnOk P w K mg base CX0 (k + 1) f fd ["bonds", "own", "exempt", "row"] (spIsRow K CB) := by
  refine ok_N F scLIsRow (fun _ => rfl) fun cdv A outer s H0 S x Q E hr hp out => ⟨_, (pss_cons (ps_for PassesOwn.never rfl (pi_range1 rfl z_range (pa_cons (pe_callB call_len_seq (by rfl) z_len PySem.boot_len (pa_cons (pv 3) pa_nil)) pa_nil)) (pg_name (i := 4) scLIsRow.nd rfl (Or.inl rfl)) (pss_cons (ps_if (pt_cmpR op_in_seq (pe_ix ix_list (pv 3) (pv 4) (fun _ _ => rfl)) (pe_slice sl_list (pv 3) po_none (po_some (pv 4))) (by rfl)) (pss_one (ps_ret pe_bl)) pss_nil)
      (pss_one (ps_if (PW.pt (pw_and (pt_cmpR op_notIn_seq (pe_ix ix_list (pv 3) (pv 4) (fun _ _ => rfl)) (pv 1) (by rfl)) (pw_and1 (PW.pt (pw_or (pt_cmpR op_in_seq (pe_ix ix_list (pv 3) (pv 4) (fun _ _ => rfl)) (pv 2) (by rfl)) (pw_or1 (pt_not (pt_val (pe_cal c_law_bound hr (by rfl) (pa_cons (pv 0) (pa_cons (pe_ix ix_list (pv 3) (pv 4) (fun _ _ => rfl)) (pa_cons (pe_slice sl_list (pv 3) po_none (po_some (pv 4))) pa_nil)))))))))))) (pss_one (ps_ret pe_bl)) pss_nil))))
      (pss_one (ps_ret pe_bl))), ?_⟩
  obtain ⟨⟨bs, ow, ex⟩, row⟩ := x
  obtain ⟨ok, lb, nd, sub, lr⟩ := hp
  have lb : bs.length ≤ 20 := lb
  have nd : (bs.map Bd.name).Nodup := nd
  have sub : ∀ z ∈ row, z ∈ bs.map Bd.name := sub
  have lr : row.length ≤ 100 := lr
  refine go_seq (go_for (iv_range1 (ev_len (ev_var rfl)) ?_ ?_) tgt_name (fun k (_ : Unit) => ([], [some ((tLs K (tBd K CB)).is bs), some ((tLs K tSt).is ow), some ((tLs K tSt).is ex), some ((tLs K tSt).is row), none])) (fun k _ => ∀ j, j < k → ∀ z, row[j]? = some z → stepB bs ow ex (row.take j) z = true) () (fun j h => absurd h (Nat.not_lt_zero _)) (fun σ H o => o.sb (by walk_at "sb")) (fun k _ x f hx hk => ?_) (fun _ hk σ H o => ?_))
  · show -2 ^ 62 ≤ ((row.length : Nat) : Int)
    omega
  · show ((row.length : Nat) : Int) < 2 ^ 62
    omega
  · have hx : (((List.range ((row.length : Nat) : Int).toNat).map fun (i : Nat) => (i : Int))[k]?) = some x := hx
    have hk2 : k < row.length := by
      have := (List.getElem?_eq_some_iff.mp hx).1
      simpa using this
    obtain rfl : x = (k : Int) := by
      rw [List.getElem?_map, List.getElem?_range (by omega)] at hx
      exact (Option.some.inj hx).symm
    have e1 : row[k]? = some row[k] := List.getElem?_eq_getElem hk2
    obtain ⟨b, mb, eb⟩ := List.mem_map.mp (sub _ (List.getElem_mem hk2))
    rw [← eb] at e1
    refine go_ifr (b := decide (b.name ∈ row.take k)) (et_of (ev_inS (ev_ixL (ev_var rfl) (ev_var rfl) ?_) (ev_takeN (ev_var rfl) (ev_var rfl)))) (fun h => ?_) (fun h => ?_)
    · exact atI_nat e1
    · refine go_end (y := false) ev_bl out (hp := ⟨(fun z => by cases z), fun z => ?_⟩)
      have := z k b.name e1
      unfold stepB at this
      rw [h] at this
      cases this
    refine go_if (b := !decide (b.name ∈ ow) && (decide (b.name ∈ ex) || !boundB b (inN (row.take k) bs))) (et_and (et_of (ev_niS (ev_ixL (ev_var rfl) (ev_var rfl) ?_) (ev_var rfl))) (fun qa => (et_or (et_of (ev_inS (ev_ixL (ev_var rfl) (ev_var rfl) ?_) (ev_var rfl))) (fun qa => (et_not (et_B (ev_call (z := LbArgs.mk _ b _) (ea_cons (ev_var rfl) (ea_cons (ev_ixL (ev_var rfl) (ev_var rfl) ?_) (ea_cons (ev_takeN (ev_var rfl) (ev_var rfl)) ea_nil))) ?_))))))) (fun h2 => ?_) (fun h2 => go_next fun σ H o => ⟨(), fun j hj z hz => ?_, o.sb (by walk_at "sb")⟩)
    · exact atI_nat e1
    · exact atI_nat e1
    · exact atI_nat e1
    · exact ⟨mb, nd, of_decide_eq_false h, ok, lb⟩
    · refine go_end (y := false) ev_bl out (hp := ⟨(fun z => by cases z), fun z => ?_⟩)
      have h3 := z k b.name e1
      unfold stepB at h3
      rw [h, lbB_of nd mb] at h3
      cases q1 : decide (b.name ∈ ow) <;> cases q2 : decide (b.name ∈ ex) <;> cases q3 : boundB b (inN (row.take k) bs) <;> rw [q1, q2, q3] at h2 h3 <;> first | (cases h2; done) | (cases h3; done)
    · by_cases hj2 : j = k
      · subst hj2
        rw [e1] at hz
        obtain rfl := Option.some.inj hz
        unfold stepB
        rw [h, lbB_of nd mb]
        cases q1 : decide (b.name ∈ ow) <;> cases q2 : decide (b.name ∈ ex) <;> cases q3 : boundB b (inN (row.take j) bs) <;> rw [q1, q2, q3] at h2 <;> first | rfl | (cases h2; done)
      · exact hk j (by omega) z hz
  · have hk : ∀ j, j < (((List.range ((row.length : Nat) : Int).toNat).map fun (i : Nat) => (i : Int))).length → ∀ z, row[j]? = some z → stepB bs ow ex (row.take j) z = true := hk
    rw [List.length_map, List.length_range, show ((row.length : Nat) : Int).toNat = row.length from by omega] at hk
    dsimp only at o ⊢
    exact go_at o (go_end (y := true) ev_bl out (hp := ⟨fun _ j z hz => hk j (List.getElem?_eq_some_iff.mp hz).1 z hz, fun _ => rfl⟩))
end
end Cs
set_option maxHeartbeats 4000000
namespace Cs
open PySem PySem.Spec PyProof.Rows L2
local macro_rules | `(tactic| walk_at "rd") => `(tactic| (first
  | (refine ⟨_, rfl, ?_⟩)
  | (refine ⟨_, _, rfl, rfl, ?_⟩)
  | (refine .inl ⟨_, rfl, ?_⟩)
  | (refine .inr ⟨_, rfl, ?_⟩)
  | (refine ⟨_, _, _, _, rfl, rfl, SqL.of upd_same, rfl, ?_⟩)
  | (refine ⟨_, _, _, _, rfl, rfl, upd_same, rfl, ?_⟩)
  | (refine ⟨_, ?xs, _, ?v, rfl, rfl, ?h, ?x, ?_⟩; (case h => first | exact SqL.of (by assumption) | exact SqT.of (by assumption) | assumption); (case x => first | rfl | exact atI_nat (j := 0) rfl | exact atI_nat (j := 1) rfl))))
local macro_rules | `(tactic| walk_at "isi") => `(tactic| (first
  | (refine ⟨_, _, _, _, _, rfl, .ty _, .base (.int _), kit_ty kit_it, ?_⟩)
  | (refine ⟨_, _, _, _, _, rfl, .ty _, .base (.int _), kit_ty kit_ib, ?_⟩)
  | (refine ⟨_, _, _, _, _, rfl, .ty _, .base (.int _), kit_ty kit_ii, ?_⟩)
  | (refine ⟨_, _, _, _, _, rfl, .ty _, .base (.bl _), kit_ty kit_bt, ?_⟩)
  | (refine ⟨_, _, _, _, _, rfl, .ty _, .base (.bl _), kit_ty kit_bb, ?_⟩)
  | (refine ⟨_, _, _, _, _, rfl, .ty _, .base (.bl _), kit_ty kit_bi, ?_⟩)))
local macro_rules | `(tactic| walk_at "ev") => `(tactic| (first
  | exact ev_var rfl
  | exact ev_int
  | exact ev_str
  | exact ev_bl
  | exact ev_non
  | (refine ev_add ?_ ?_ <;> walk_at "ev")
  | (refine ev_sub ?_ ?_ <;> walk_at "ev")
  | (refine ev_mul ?_ ?_ ?_ <;> (try walk_at "ev"))
  | (refine ev_neg ?_ <;> walk_at "ev")
  | (refine ev_num ?_ <;> walk_at "ev")
  | (refine ev_den ?_ <;> walk_at "ev")
  | (refine ev_cmp ?_ ?_ <;> walk_at "ev")
  | (refine ev_eqI ?_ ?_ <;> walk_at "ev")
  | (refine ev_eqS ?_ ?_ <;> walk_at "ev")
  | (refine ev_neI ?_ ?_ <;> walk_at "ev")
  | (refine ev_neS ?_ ?_ <;> walk_at "ev")
  | (refine ev_inS ?_ ?_ <;> walk_at "ev")
  | (refine ev_niS ?_ ?_ <;> walk_at "ev")
  | (refine ev_len ?_ <;> walk_at "ev")
  | (refine ev_list ?_ <;> walk_at "ev")
  | (refine ev_listRev ?_ <;> walk_at "ev")
  | (refine ev_int1 ?_ <;> walk_at "ev")))
local macro_rules | `(tactic| walk_at "ea") => `(tactic| (first
  | exact ea_nil
  | (refine ea_cons ?_ ?_ <;> (first | walk_at "ev" | walk_at "ea" | skip))))
local macro_rules | `(tactic| walk_at "sb") => `(tactic| (first | exact True.intro | (refine And.intro rfl ?_; walk_at "sb")))
section
variable {P : Program} {w : World} {K : PySem.W.Frag} {mg : Str → Option Value} {base : Heap}
noncomputable def isRowB (bs : List Bd) (ow ex row : List Str) : Bool := @decide (IsRow bs ow ex row) (Classical.propDecidable _)
theorem isRowB_iff {bs : List Bd} {ow ex row : List Str} : isRowB bs ow ex row = true ↔ IsRow bs ow ex row := by
  unfold isRowB
  exact @decide_eq_true_iff _ (Classical.propDecidable _)
theorem ev_isrow {W : Wd} {ar : TA} {E : XK} {CB : Addr} {x : DfArgs × List Str} (h : Ea W ar [(tLs K (tBd K CB)).is x.1.bs, (tLs K tSt).is x.1.ow, (tLs K tSt).is x.1.ex, (tLs K tSt).is x.2]) (hp : IrOk x) : Ev W (tCall (spIsRow K CB) [] E ar) tBl (isRowB x.1.bs x.1.ow x.1.ex x.2) := fun σ H o Q q => by
  have h0 : Evx W (tCall (spIsRow K CB) [] E ar) tBl (fun y => y = true ↔ IsRow x.1.bs x.1.ow x.1.ex x.2) := evx_call (z := x) h hp
  exact h0 σ H o Q fun v y H' py g r => by
    have py : y = true ↔ IsRow x.1.bs x.1.ow x.1.ex x.2 := py
    have e : y = isRowB x.1.bs x.1.ow x.1.ex x.2 := by rw [Bool.eq_iff_iff, py, isRowB_iff]
    rw [e] at r
    exact q v H' g r
noncomputable def lgo (x : DfArgs) (r : List Str) (z : Str) : Bool := !decide (z ∈ r) && isRowB x.bs x.ow x.ex (r ++ [z])
noncomputable def lfol (x : DfArgs) (os r : List Str) : List (List Str) := (os.filter (lgo x r)).map fun z => r ++ [z]
noncomputable def lfolP (x : DfArgs) (os r : List Str) (j : Nat) : List (List Str) := ((os.take j).filter (lgo x r)).map fun z => r ++ [z]
noncomputable def WLw (x : DfArgs) (os : List Str) : Nat → List (List Str)
  | 0 => [[]]
  | n + 1 => (WLw x os n).flatMap (lfol x os)
theorem lfolP_succ {x : DfArgs} {os r : List Str} {j : Nat} {z : Str} (h : os[j]? = some z) : lfolP x os r (j + 1) = lfolP x os r j ++ (if lgo x r z = true then [r ++ [z]] else []) := by
  unfold lfolP
  rw [take_snoc h, List.filter_append, List.map_append]
  congr 1
  by_cases q : lgo x r z = true
  · rw [if_pos q, List.filter_cons_of_pos q]; rfl
  · rw [if_neg q, List.filter_cons_of_neg q]; rfl
theorem lfolP_all (x : DfArgs) (os r : List Str) : lfolP x os r os.length = lfol x os r := by unfold lfolP lfol; rw [List.take_length]
theorem lfolP_len (x : DfArgs) (os r : List Str) (j : Nat) : (lfolP x os r j).length ≤ os.length := by
  unfold lfolP
  rw [List.length_map]
  refine Nat.le_trans (List.length_filter_le ..) ?_
  rw [List.length_take]
  omega
theorem lfol_len (x : DfArgs) (os r : List Str) : (lfol x os r).length ≤ os.length := by rw [← lfolP_all]; exact lfolP_len ..
theorem lflat_len (x : DfArgs) (os : List Str) : ∀ rows : List (List Str), (rows.flatMap (lfol x os)).length ≤ rows.length * os.length
  | [] => Nat.zero_le _
  | r :: rows => by
    have ih := lflat_len x os rows
    rw [List.flatMap_cons, List.length_append, List.length_cons, Nat.succ_mul]
    have := lfol_len x os r
    omega
theorem WLw_len (x : DfArgs) (os : List Str) : ∀ n, (WLw x os n).length ≤ os.length ^ n
  | 0 => Nat.le_refl _
  | n + 1 => by
    refine Nat.le_trans (lflat_len x os _) ?_
    rw [Nat.pow_succ]
    exact Nat.mul_le_mul_right _ (WLw_len x os n)
theorem WLw_row {x : DfArgs} {os : List Str} : ∀ {n : Nat} {r : List Str}, r ∈ WLw x os n → r.length = n ∧ ∀ z ∈ r, z ∈ os
  | 0, r, m => by rw [List.mem_singleton.mp m]; exact ⟨rfl, fun z m => nomatch m⟩
  | n + 1, r, m => by
    obtain ⟨r0, m0, m1⟩ := List.mem_flatMap.mp m
    obtain ⟨z, mz, rfl⟩ := List.mem_map.mp m1
    obtain ⟨h1, h2⟩ := WLw_row m0
    refine ⟨by rw [List.length_append, h1]; rfl, fun y my => ?_⟩
    rcases List.mem_append.mp my with my | my
    · exact h2 y my
    · rw [List.mem_singleton.mp my]
      exact (List.mem_filter.mp mz).1
structure LsOk (x : CrArgs) : Prop where
  ok : ∀ b ∈ x.d.bs, BdOk b
  l6 : x.d.bs.length ≤ 6
  nd : (x.d.bs.map Bd.name).Nodup
  io : x.nm ∈ x.d.bs.map Bd.name
def othersOf (x : CrArgs) (iss : Str) : List Str := (x.d.bs.filter fun b => decide (b.issuer = iss) && !decide (b.name = x.nm)).map Bd.name
/-- the law's shortest row -/
def Short (x : CrArgs) (y : Option (List Str)) : Prop := ∃ b ∈ x.d.bs, b.name = x.nm ∧ ∃ os : List Str, os.Perm (othersOf x b.issuer) ∧ sortedS os = true ∧
  ((∃ L w, L ≤ os.length ∧ (∀ k, k < L → (WLw x.d os k).find? (fun r => isRowB x.d.bs x.d.ow x.d.ex (r ++ [x.nm])) = none) ∧ (WLw x.d os L).find? (fun r => isRowB x.d.bs x.d.ow x.d.ex (r ++ [x.nm])) = some w ∧ y = some (w ++ [x.nm])) ∨
   ((∀ k, k ≤ os.length → (WLw x.d os k).find? (fun r => isRowB x.d.bs x.d.ow x.d.ex (r ++ [x.nm])) = none) ∧ y = none))
abbrev spShort (K : PySem.W.Frag) (CB : Addr) : Sp := spN (fun _ => []) (fun x : CrArgs => [(tLs K (tBd K CB)).is x.d.bs, (tLs K tSt).is x.d.ow, (tLs K tSt).is x.d.ex, tSt.is x.nm]) (tOpt (tLs K tSt)) LsOk Short
abbrev sLShort : Stmt := topS 38
theorem scLShort : FnScope ["bonds", "own", "exempt", "name", "issuer", "others", "rows", "length", "row", "longer", "other", "bond"] ["bonds", "own", "exempt", "name"] (defScope sLShort) := ⟨rfl, rfl, rfl, by decide +kernel, rfl, by decide +kernel, by decide +kernel⟩
theorem ok_short {f CB : Addr} {fd : FuncData} {k : Nat} (F : Fun K "_law_shortest" "_law_shortest" sLShort f fd) (BC : BondC K CB) (c_law_is_row : Cal P w K mg base k "_law_is_row" ["bonds", "own", "exempt", "row"] (spIsRow K CB)) (z_len : mg "len" = none) (z_range : mg "range" = none) (z_sorted : mg "sorted" = none) : FnOk P w K mg base CX0 (k + 1) f fd ["bonds", "own", "exempt", "name"] (spShort K CB) := by
  refine ok_N F scLShort (fun _ => rfl) fun cdv A outer s H0 S x Q E hr hp out => ⟨_, (pss_cons (ps_set (i := 4) scLShort.nd rfl (Or.inr rfl) (pe_ix ix_list (pe_lc (own := [("bond", 11)]) (g := gName 11)  rfl scLShort.nd (pi_list (pv 0)) (blkOk_by (own := [("bond", 11)]) (N := ["bonds", "own", "exempt", "name", "issuer", "others", "rows", "length", "row", "longer", "other", "bond"]) (sc := defScope sLShort) (by decide +kernel)) (fun _ _ _ _ _ => (pg_name (i := 11) scLShort.nd rfl (Or.inl rfl))) (fun _ _ _ _ _ => (pts_one (pt_cmpR op_eq (pe_fldK (K := K) rfl (pv 11) rfl) (pv 3) (nomark _)))) (fun _ _ _ _ _ => (pe_fldK (K := K) rfl (pv 11) rfl))) pe_int (fun _ _ => rfl)))
      (pss_cons (ps_set (i := 5) scLShort.nd rfl (Or.inl rfl) (pe_callB cr_sortedS (by rfl) z_sorted (by decide +kernel) (pa_cons (pe_lc (own := [("bond", 11)]) (g := gName 11)  rfl scLShort.nd (pi_list (pv 0)) (blkOk_by (own := [("bond", 11)]) (N := ["bonds", "own", "exempt", "name", "issuer", "others", "rows", "length", "row", "longer", "other", "bond"]) (sc := defScope sLShort) (by decide +kernel)) (fun _ _ _ _ _ => (pg_name (i := 11) scLShort.nd rfl (Or.inl rfl))) (fun _ _ _ _ _ => (pts_one (PW.pt (pw_and (pt_cmpR op_eq (pe_fldK (K := K) rfl (pv 11) rfl) (pv 4) (nomark _)) (pw_and1 (pt_cmpR op_ne (pe_fldK (K := K) rfl (pv 11) rfl) (pv 3) (nomark _))))))) (fun _ _ _ _ _ => (pe_fldK (K := K) rfl (pv 11) rfl))) pa_nil)))
      (pss_cons (ps_set (i := 6) scLShort.nd rfl (Or.inl rfl) (pe_lst (pa_cons (pe_lst pa_nil) pa_nil)))
      (pss_cons (ps_for PassesOwn.never rfl (pi_range1 rfl z_range (pa_cons (pe_op op_add (pe_callB call_len_seq (by rfl) z_len PySem.boot_len (pa_cons (pv 5) pa_nil)) pe_int) pa_nil)) (pg_name (i := 7) scLShort.nd rfl (Or.inl rfl)) (pss_cons (ps_for PassesOwn.never rfl (pi_list (pv 6)) (pg_name (i := 8) scLShort.nd rfl (Or.inl rfl)) (pss_one (ps_if (pt_val (pe_cal c_law_is_row hr (by rfl) (pa_cons (pv 0) (pa_cons (pv 1) (pa_cons (pv 2) (pa_cons (pe_op op_cat (pv 8) (pe_lst (pa_cons (pv 3) pa_nil))) pa_nil)))))) (pss_one (ps_ret (pe_op op_cat (pv 8) (pe_lst (pa_cons (pv 3) pa_nil))))) pss_nil)))
      (pss_cons (ps_set (i := 9) scLShort.nd rfl (Or.inl rfl) (pe_lst pa_nil))
      (pss_cons (ps_for PassesOwn.never rfl (pi_list (pv 6)) (pg_name (i := 8) scLShort.nd rfl (Or.inl rfl)) (pss_one (ps_for PassesOwn.never rfl (pi_list (pv 5)) (pg_name (i := 10) scLShort.nd rfl (Or.inl rfl)) (pss_one (ps_if (PW.pt (pw_and (pt_cmpR op_notIn_seq (pv 10) (pv 8) (by rfl)) (pw_and1 (pt_val (pe_cal c_law_is_row hr (by rfl) (pa_cons (pv 0) (pa_cons (pv 1) (pa_cons (pv 2) (pa_cons (pe_op op_cat (pv 8) (pe_lst (pa_cons (pv 10) pa_nil))) pa_nil))))))))) (pss_one (ps_expr (pe_bm PySem.F.plainAttrs_list PySem.F.slot_list_append PySem.F.type_list_append mt_append (pv 9) (pa_cons (pe_op op_cat (pv 8) (pe_lst (pa_cons (pv 10) pa_nil))) pa_nil)))) pss_nil)))))
      (pss_one (ps_set (i := 6) scLShort.nd rfl (Or.inl rfl) (pv 9)))))))
      (pss_one (ps_ret pe_non)))))), ?_⟩
  obtain ⟨⟨bs, ow, ex⟩, nm⟩ := x
  obtain ⟨ok, l6, nd, io⟩ := hp
  have ok : ∀ b ∈ bs, BdOk b := ok
  have l6 : bs.length ≤ 6 := l6
  have nd : (bs.map Bd.name).Nodup := nd
  have io : nm ∈ bs.map Bd.name := io
  have sz : ∀ n, n ≤ 1000000 → n < sizeLine := fun n h => by rw [sizeLine_eq]; omega
  obtain ⟨b0, mb0, eb0⟩ := List.mem_map.mp io
  refine go_set (x := b0.issuer) (ev_ixL (ev_lcf (K := K) (iv_list (ev_var rfl)) tgt_name (by simp) ?_ (fun _ _ _ x _ xm => (et_of (ev_eqS (ev_fld 0 (ev_var rfl) BC.cl BC.n0) (ev_var rfl)))) (fun _ _ _ x _ xm px => (ev_fld 1 (ev_var rfl) BC.cl BC.n1))) ev_int ?_) ?_
  · exact sz _ (by show bs.length ≤ _; omega)
  · refine atI_nat (j := 0) ?_
    show ((bs.filter fun r => decide (r.name = nm)).map fun r => r.issuer)[0]? = _
    rw [← eb0, only_name nd mb0]
    rfl
  refine go_setx (P := fun os : List Str => os.Perm (othersOf ⟨⟨bs, ow, ex⟩, nm⟩ b0.issuer) ∧ sortedS os = true) (evx_sortS (K := K) (ev_lcf (K := K) (iv_list (ev_var rfl)) tgt_name (by simp) ?_ (fun _ _ _ x _ xm => (et_and (et_of (ev_eqS (ev_fld 1 (ev_var rfl) BC.cl BC.n1) (ev_var rfl))) (fun qa => (et_of (ev_neS (ev_fld 0 (ev_var rfl) BC.cl BC.n0) (ev_var rfl)))))) (fun _ _ _ x _ xm px => (ev_fld 0 (ev_var rfl) BC.cl BC.n0))) ?_) fun os hos => ?_
  · exact sz _ (by show bs.length ≤ _; omega)
  · unfold othersOf
    rw [List.length_map]
    exact Nat.lt_of_le_of_lt (List.length_filter_le ..) (by show bs.length < 64; omega)
  obtain ⟨pos, sos⟩ := hos
  have los : os.length ≤ 6 := by
    rw [pos.length_eq]
    unfold othersOf
    rw [List.length_map]
    exact Nat.le_trans (List.length_filter_le ..) l6
  have ios : ∀ z ∈ os, z ∈ bs.map Bd.name := fun z m => by
    obtain ⟨b, mb, rfl⟩ := List.mem_map.mp (pos.mem_iff.mp m)
    exact List.mem_map_of_mem (List.mem_filter.mp mb).1
  have lWn : ∀ n, n ≤ 6 → (WLw ⟨bs, ow, ex⟩ os n).length ≤ 46656 := fun n h => Nat.le_trans (WLw_len _ _ n) (Nat.le_trans (Nat.pow_le_pow_left los n) (Nat.le_trans (Nat.pow_le_pow_right (by decide) h) (by decide)))
  refine go_set (t := tLs K (tLs K tSt)) (x := ([[]] : List (List Str))) (ev_lst (K := K) (el_cons (ev_nil (K := K)) el_nil) (by show 1 ≤ sizeLine; decide)) ?_
  refine go_seq (go_for (iv_range1 (ev_add (ev_len (ev_var rfl)) ev_int) ?_ ?_) tgt_name (fun k (_ : Unit) => ([], [some ((tLs K (tBd K CB)).is bs), some ((tLs K tSt).is ow), some ((tLs K tSt).is ex), some (tSt.is nm), none, some ((tLs K tSt).is os), some ((tLs K (tLs K tSt)).is (WLw ⟨bs, ow, ex⟩ os k)), none, none, none, none, none])) (fun k _ => ∀ j, j < k → (WLw ⟨bs, ow, ex⟩ os j).find? (fun r => isRowB bs ow ex (r ++ [nm])) = none) () (fun j h => absurd h (Nat.not_lt_zero _)) (fun σ H o => o.sb (by walk_at "sb")) (fun k _ x f hx hk => ?_) (fun _ hk σ H o => ?_))
  · omega
  · omega
  · have hx : (((List.range (((os.length : Nat) : Int) + 1).toNat).map fun (i : Nat) => (i : Int))[k]?) = some x := hx
    have hk2 : k ≤ os.length := by
      have := (List.getElem?_eq_some_iff.mp hx).1
      simp at this
      omega
    have hrow : ∀ r ∈ WLw ⟨bs, ow, ex⟩ os k, r.length ≤ 6 ∧ ∀ z ∈ r, z ∈ bs.map Bd.name := fun r m => by
      obtain ⟨h1, h2⟩ := WLw_row m
      exact ⟨by omega, fun z mz => ios z (h2 z mz)⟩
    have lrows := lWn k (by omega)
    refine go_seq (go_for (iv_list (ev_var rfl)) tgt_name (fun i (_ : Unit) => ([], [some ((tLs K (tBd K CB)).is bs), some ((tLs K tSt).is ow), some ((tLs K tSt).is ex), some (tSt.is nm), none, some ((tLs K tSt).is os), some ((tLs K (tLs K tSt)).is (WLw ⟨bs, ow, ex⟩ os k)), none, none, none, none, none])) (fun i _ => ∀ r ∈ (WLw ⟨bs, ow, ex⟩ os k).take i, isRowB bs ow ex (r ++ [nm]) = false) () (fun r m => nomatch m) (fun σ H o => o.sb (by walk_at "sb")) (fun i _ r f2 hr hi => ?_) (fun _ hi σ H o => ?_))
    · have mr := List.mem_of_getElem? hr
      have irok : IrOk (⟨bs, ow, ex⟩, r ++ [nm]) := ⟨ok, by show bs.length ≤ 20; omega, nd, fun z m => (List.mem_append.mp m).elim ((hrow r mr).2 z) fun m => by rw [List.mem_singleton.mp m]; exact io, by show (r ++ [nm]).length ≤ 100; rw [List.length_append, List.length_singleton]; have := (hrow r mr).1; omega⟩
      have lcat : r.length + [nm].length ≤ sizeLine := by
        show r.length + 1 ≤ sizeLine
        rw [sizeLine_eq]
        have := (hrow r mr).1; omega
      refine go_if (et_B (ev_isrow (x := (DfArgs.mk _ _ _, _)) (ea_cons (ev_var rfl) (ea_cons (ev_var rfl) (ea_cons (ev_var rfl) (ea_cons (ev_cat (ev_var rfl) (ev_lst (K := K) (el_cons (ev_var rfl) el_nil) (by show 1 ≤ sizeLine; decide)) ?_) ea_nil)))) ?_)) (fun h => ?_) (fun h => go_next fun σ H o => ⟨(), fun r' m => ?_, o.sb (by walk_at "sb")⟩)
      · exact lcat
      · exact irok
      · have h : isRowB bs ow ex (r ++ [nm]) = true := h
        have hfind : (WLw ⟨bs, ow, ex⟩ os k).find? (fun r => isRowB bs ow ex (r ++ [nm])) = some r := by
          have e2 : WLw ⟨bs, ow, ex⟩ os k = (WLw ⟨bs, ow, ex⟩ os k).take i ++ (r :: (WLw ⟨bs, ow, ex⟩ os k).drop (i + 1)) := by
            obtain ⟨h1, h2⟩ := List.getElem?_eq_some_iff.mp hr
            rw [← h2, ← List.drop_eq_getElem_cons h1, List.take_append_drop]
          rw [e2, List.find?_append, List.find?_eq_none.mpr (fun r' m => by simp [hi r' m]), Option.none_or, List.find?_cons_of_pos (by simpa using h)]
        refine go_end (y := some (r ++ [nm])) (ev_to (u := tOpt (tLs K tSt)) (y := some (r ++ [nm])) (ev_cat (ev_var rfl) (ev_lst (K := K) (el_cons (ev_var rfl) el_nil) (by show 1 ≤ sizeLine; decide)) ?_) fun _ v h => ⟨h, by obtain ⟨p, vs, rfl, _⟩ := h; simp⟩) out (hp := ⟨b0, mb0, eb0, os, pos, sos, .inl ⟨k, r, hk2, hk, hfind, rfl⟩⟩)
        exact lcat
      · rw [take_snoc hr] at m
        rcases List.mem_append.mp m with m | m
        · exact hi r' m
        · rw [List.mem_singleton.mp m]
          exact h
    · rw [List.take_length] at hi
      have hnone : (WLw ⟨bs, ow, ex⟩ os k).find? (fun r => isRowB bs ow ex (r ++ [nm])) = none := List.find?_eq_none.mpr fun r m => by simp [hi r m]
      dsimp only at o ⊢
      refine go_at o ?_
      refine go_newN (t := tLs K tSt) el_nil (k := fun p np => ?_)
      refine go_seq (go_for (iv_list (ev_var rfl)) tgt_name (fun i (c : List (List Str)) => ([cell p (cLs (tLs K tSt) c)], [some ((tLs K (tBd K CB)).is bs), some ((tLs K tSt).is ow), some ((tLs K tSt).is ex), some (tSt.is nm), none, some ((tLs K tSt).is os), some ((tLs K (tLs K tSt)).is (WLw ⟨bs, ow, ex⟩ os k)), none, none, some (tRf.is p), none, none])) (fun i c => c = ((WLw ⟨bs, ow, ex⟩ os k).take i).flatMap (lfol ⟨bs, ow, ex⟩ os)) [] rfl (fun σ H o => o.sb (by walk_at "sb")) (fun i c r f2 hr hc => ?_) (fun c hc σ H o => ?_))
      · have mr := List.mem_of_getElem? hr
        obtain ⟨lr6, rsub⟩ := hrow r mr
        refine go_for (iv_list (ev_var rfl)) tgt_name (fun j (c : List (List Str)) => ([cell p (cLs (tLs K tSt) c)], [some ((tLs K (tBd K CB)).is bs), some ((tLs K tSt).is ow), some ((tLs K tSt).is ex), some (tSt.is nm), none, some ((tLs K tSt).is os), some ((tLs K (tLs K tSt)).is (WLw ⟨bs, ow, ex⟩ os k)), none, some ((tLs K tSt).is r), some (tRf.is p), none, none])) (fun j c => c = ((WLw ⟨bs, ow, ex⟩ os k).take i).flatMap (lfol ⟨bs, ow, ex⟩ os) ++ lfolP ⟨bs, ow, ex⟩ os r j) c (by rw [hc]; exact (List.append_nil _).symm) (fun σ H o => o.sb (by walk_at "sb")) (fun j c z f3 hz hc => ?_) (fun c hc σ H o => ?_)
        · have mz := List.mem_of_getElem? hz
          have irok : IrOk (⟨bs, ow, ex⟩, r ++ [z]) := ⟨ok, by show bs.length ≤ 20; omega, nd, fun y m => (List.mem_append.mp m).elim (rsub y) fun m => by rw [List.mem_singleton.mp m]; exact ios z mz, by show (r ++ [z]).length ≤ 100; rw [List.length_append, List.length_singleton]; omega⟩
          have lcat : r.length + [z].length ≤ sizeLine := by
            show r.length + 1 ≤ sizeLine
            rw [sizeLine_eq]
            omega
          have lc : c.length ≤ 300000 := by
            have h1 := lflat_len ⟨bs, ow, ex⟩ os ((WLw ⟨bs, ow, ex⟩ os k).take i)
            have h2 := lfolP_len ⟨bs, ow, ex⟩ os r j
            have h3 : ((WLw ⟨bs, ow, ex⟩ os k).take i).length * os.length ≤ 46656 * 6 := Nat.mul_le_mul (by rw [List.length_take]; omega) los
            rw [hc, List.length_append]
            omega
          refine go_if (et_and (et_of (ev_niS (ev_var rfl) (ev_var rfl))) (fun qa => (et_B (ev_isrow (x := (DfArgs.mk _ _ _, _)) (ea_cons (ev_var rfl) (ea_cons (ev_var rfl) (ea_cons (ev_var rfl) (ea_cons (ev_cat (ev_var rfl) (ev_lst (K := K) (el_cons (ev_var rfl) el_nil) (by show 1 ≤ sizeLine; decide)) ?_) ea_nil)))) ?_)))) (fun h => ?_) (fun h => ?_)
          · exact lcat
          · exact irok
          · refine go_app1 rfl (List.Perm.refl _) (ev_cat (ev_var rfl) (ev_lst (K := K) (el_cons (ev_var rfl) el_nil) (by show 1 ≤ sizeLine; decide)) ?_) (sz _ (by omega)) fun σ H o => ⟨c ++ [r ++ [z]], ?_, o.sb (by walk_at "sb")⟩
            · exact lcat
            · rw [lfolP_succ hz, show lgo ⟨bs, ow, ex⟩ r z = true from h, if_pos rfl, ← List.append_assoc, hc]
          · refine go_next fun σ H o => ⟨c, ?_, o.sb (by walk_at "sb")⟩
            rw [lfolP_succ hz, show lgo ⟨bs, ow, ex⟩ r z = false from h, if_neg (by decide), List.append_nil]
            exact hc
        · refine ⟨c, ?_, o.sb (by walk_at "sb")⟩
          rw [lfolP_all] at hc
          rw [take_snoc hr, List.flatMap_append, hc]
          simp
      · rw [List.take_length] at hc
        dsimp only at o ⊢
        refine go_at o (go_frz (K := K) (i := 9) (t := tLs K tSt) (xs := c) rfl (fun a m => nomatch m) np (fun a m => nomatch m) ?_)
        refine go_set1 (ev_var rfl) fun σ H o => ⟨(), fun j hj => ?_, o.sb ?_⟩
        · by_cases e : j = k
          · rw [e]; exact hnone
          · exact hk j (by omega)
        · rw [hc]
          walk_at "sb"
  · have hk : ∀ j, j < ((List.range (((os.length : Nat) : Int) + 1).toNat).map fun (i : Nat) => (i : Int)).length → (WLw ⟨bs, ow, ex⟩ os j).find? (fun r => isRowB bs ow ex (r ++ [nm])) = none := hk
    rw [List.length_map, List.length_range] at hk
    dsimp only at o ⊢
    exact go_at o (go_end (y := (none : Option (List Str))) (ev_to (u := tOpt (tLs K tSt)) (y := none) ev_non fun _ _ r => r) out (hp := ⟨b0, mb0, eb0, os, pos, sos, .inr ⟨fun j hj => hk j (by omega), rfl⟩⟩))
end
end Cs
set_option maxHeartbeats 4000000
namespace Cs
open PySem PySem.Spec PyProof.Rows L2
local macro_rules | `(tactic| walk_at "rd") => `(tactic| (first
  | (refine ⟨_, rfl, ?_⟩)
  | (refine ⟨_, _, rfl, rfl, ?_⟩)
  | (refine .inl ⟨_, rfl, ?_⟩)
  | (refine .inr ⟨_, rfl, ?_⟩)
  | (refine ⟨_, _, _, _, rfl, rfl, SqL.of upd_same, rfl, ?_⟩)
  | (refine ⟨_, _, _, _, rfl, rfl, upd_same, rfl, ?_⟩)
  | (refine ⟨_, ?xs, _, ?v, rfl, rfl, ?h, ?x, ?_⟩; (case h => first | exact SqL.of (by assumption) | exact SqT.of (by assumption) | assumption); (case x => first | rfl | exact atI_nat (j := 0) rfl | exact atI_nat (j := 1) rfl))))
local macro_rules | `(tactic| walk_at "isi") => `(tactic| (first
  | (refine ⟨_, _, _, _, _, rfl, .ty _, .base (.int _), kit_ty kit_it, ?_⟩)
  | (refine ⟨_, _, _, _, _, rfl, .ty _, .base (.int _), kit_ty kit_ib, ?_⟩)
  | (refine ⟨_, _, _, _, _, rfl, .ty _, .base (.int _), kit_ty kit_ii, ?_⟩)
  | (refine ⟨_, _, _, _, _, rfl, .ty _, .base (.bl _), kit_ty kit_bt, ?_⟩)
  | (refine ⟨_, _, _, _, _, rfl, .ty _, .base (.bl _), kit_ty kit_bb, ?_⟩)
  | (refine ⟨_, _, _, _, _, rfl, .ty _, .base (.bl _), kit_ty kit_bi, ?_⟩)))
local macro_rules | `(tactic| walk_at "ev") => `(tactic| (first
  | exact ev_var rfl
  | exact ev_int
  | exact ev_str
  | exact ev_bl
  | exact ev_non
  | (refine ev_add ?_ ?_ <;> walk_at "ev")
  | (refine ev_sub ?_ ?_ <;> walk_at "ev")
  | (refine ev_mul ?_ ?_ ?_ <;> (try walk_at "ev"))
  | (refine ev_neg ?_ <;> walk_at "ev")
  | (refine ev_num ?_ <;> walk_at "ev")
  | (refine ev_den ?_ <;> walk_at "ev")
  | (refine ev_cmp ?_ ?_ <;> walk_at "ev")
  | (refine ev_eqI ?_ ?_ <;> walk_at "ev")
  | (refine ev_eqS ?_ ?_ <;> walk_at "ev")
  | (refine ev_neI ?_ ?_ <;> walk_at "ev")
  | (refine ev_neS ?_ ?_ <;> walk_at "ev")
  | (refine ev_inS ?_ ?_ <;> walk_at "ev")
  | (refine ev_niS ?_ ?_ <;> walk_at "ev")
  | (refine ev_len ?_ <;> walk_at "ev")
  | (refine ev_list ?_ <;> walk_at "ev")
  | (refine ev_listRev ?_ <;> walk_at "ev")
  | (refine ev_int1 ?_ <;> walk_at "ev")))
local macro_rules | `(tactic| walk_at "ea") => `(tactic| (first
  | exact ea_nil
  | (refine ea_cons ?_ ?_ <;> (first | walk_at "ev" | walk_at "ea" | skip))))
local macro_rules | `(tactic| walk_at "sb") => `(tactic| (first | exact True.intro | (refine And.intro rfl ?_; walk_at "sb")))
section
variable {P : Program} {w : World} {K : PySem.W.Frag} {mg : Str → Option Value} {base : Heap}
abbrev spLBoundC (K : PySem.W.Frag) (CB : Addr) : Sp := spN (fun x : LbArgs × Addr × List (V × Str) => [cell x.2.1 (cTg tSt x.2.2)]) (fun x => [(tLs K (tBd K CB)).is x.1.bs, tSt.is x.1.b.name, tRf.is x.2.1]) tBl (fun x => LbOk x.1 ∧ x.2.2.map (·.2) = x.1.ns) (fun x y => y = boundB x.1.b (inN x.1.ns x.1.bs))
theorem ok_lboundC {f CB : Addr} {fd : FuncData} {k : Nat} (F : Fun K "_law_bound" "_law_bound" sLBound f fd) (BC : BondC K CB) (c_law_size : Cal P w K mg base k "_law_size" ["bond"] (spSize K CB)) (c_law_total : Cal P w K mg base k "_law_total" ["values"] (spTotal K)) (c_law_order : Cal P w K mg base k "_law_order" ["a", "b"] (spLOrder K)) : FnOk P w K mg base CX0 (k + 1) f fd ["bonds", "name", "names"] (spLBoundC K CB) := by
  refine ok_N F scLBound (fun _ => rfl) fun cdv A outer s H0 S x Q E hr hp out => ⟨_, (pss_cons (ps_set (i := 3) scLBound.nd rfl (Or.inr rfl) (pe_ix ix_list (pe_lc (own := [("row", 5)]) (g := gName 5)  rfl scLBound.nd (pi_list (pv 0)) (blkOk_by (own := [("row", 5)]) (N := ["bonds", "name", "names", "bond", "others", "row"]) (sc := defScope sLBound) (by decide +kernel)) (fun _ _ _ _ _ => (pg_name (i := 5) scLBound.nd rfl (Or.inl rfl))) (fun _ _ _ _ _ => (pts_one (pt_cmpR op_eq (pe_fldK (K := K) rfl (pv 5) rfl) (pv 1) (nomark _)))) (fun _ _ _ _ _ => (pv 5))) pe_int (fun _ _ => rfl)))
      (pss_cons (ps_if (pt_cmpR op_isN (pe_fld (pv 3) rfl) pe_non (nomark _)) (pss_one (ps_ret pe_bl)) pss_nil)
      (pss_cons (ps_setLc (i := 4) (own := [("row", 5)]) (g := gName 5)  rfl scLBound.nd rfl rfl (sw_true rfl rfl rfl (by decide +kernel)) (pi_list (pv 0)) (blkOk_by (own := [("row", 5)]) (N := ["bonds", "name", "names", "bond", "others", "row"]) (sc := defScope sLBound) (by decide +kernel)) (fun _ _ _ _ _ => (pg_name (i := 5) scLBound.nd rfl (Or.inl rfl))) (fun _ _ _ _ _ => (pts_one (PW.pt (pw_and (pt_cmpR (op_inK (K := K) rfl) (pe_fldK (K := K) rfl (pv 5) rfl) (pv 2) (by rfl)) (pw_and (pt_cmpR op_ne (pe_fldK (K := K) rfl (pv 5) rfl) (pv 1) (nomark _)) (pw_and1 (pt_cmpR op_eq (pe_fldK (K := K) rfl (pv 5) rfl) (pe_fldK (K := K) rfl (pv 3) rfl) (nomark _)))))))) (fun _ _ _ _ _ => (pv 5)))
      (pss_one (ps_ret (pe_cmpR op_gt (pe_cal c_law_order hr (by rfl) (pa_cons (pe_cal c_law_total hr (by rfl) (pa_cons (pe_lc (own := [("row", 5)]) (g := gName 5) (tt := tYes) rfl scLBound.nd (pi_list (pv 4)) (blkOk_by (own := [("row", 5)]) (N := ["bonds", "name", "names", "bond", "others", "row"]) (sc := defScope sLBound) (by decide +kernel)) (fun _ _ _ _ _ => (pg_name (i := 5) scLBound.nd rfl (Or.inl rfl))) (fun _ _ _ _ _ => pts_nil) (fun _ _ _ _ _ => (pe_cal c_law_size hr (by rfl) (pa_cons (pv 5) pa_nil)))) pa_nil)) (pa_cons (pe_fld (pv 3) rfl) pa_nil))) pe_int (nomark _))))))), ?_⟩
  obtain ⟨⟨bs, b, ns⟩, q, ws⟩ := x
  obtain ⟨⟨m, nd, ni, ok, l⟩, ew⟩ := hp
  have ew : ws.map (·.2) = ns := ew
  have m : b ∈ bs := m
  have nd : (bs.map Bd.name).Nodup := nd
  have ni : b.name ∉ ns := ni
  have ok : ∀ b ∈ bs, BdOk b := ok
  have l : bs.length ≤ 20 := l
  have lz : bs.length < sizeLine := by rw [sizeLine_eq]; omega
  refine go_set (x := b) (ev_ixL (ev_lcf (K := K) (iv_list (ev_var rfl)) tgt_name (by simp) ?_ (fun _ _ _ x _ xm => (et_of (ev_eqS (ev_fld 0 (ev_var rfl) BC.cl BC.n0) (ev_var rfl)))) (fun _ _ _ x _ xm px => (ev_var rfl))) ev_int ?_) ?_
  · exact lz
  · show atI ((bs.filter fun r => decide (r.name = b.name)).map fun r => r) 0 = some b
    rw [only_name nd m]
    rfl
  have hb := ok b m
  have sub : ∀ r ∈ ((inN ns bs).filter fun o => decide (o.issuer = b.issuer)).map sizeB, Sz 20 r := fun r mm => by
    obtain ⟨o, m1, rfl⟩ := List.mem_map.mp mm
    exact sizeB_sz (ok o (List.mem_filter.mp (List.mem_filter.mp m1).1).1)
  have len0 : ((inN ns bs).filter fun o => decide (o.issuer = b.issuer)).length ≤ 20 := Nat.le_trans (List.length_filter_le ..) (Nat.le_trans (List.length_filter_le ..) l)
  have len : (((inN ns bs).filter fun o => decide (o.issuer = b.issuer)).map sizeB).length ≤ 20 := by
    rw [List.length_map]
    exact len0
  have eqF : ((bs.filter fun r => decide (r.name ∈ ns) && (!decide (r.name = b.name) && decide (r.issuer = b.issuer))).map fun r => r) = (inN ns bs).filter fun o => decide (o.issuer = b.issuer) := by
    rw [List.map_id']
    unfold inN
    rw [List.filter_filter]
    refine List.filter_congr fun r mr => ?_
    by_cases q : r.name ∈ ns
    · have : r.name ≠ b.name := fun e => ni (e ▸ q)
      simp [q, this]
    · simp [q]
  obtain ⟨nm, iss, un, fc, cr⟩ := b
  cases cr with
  | none => exact go_ifr (et_isN (ev_fld 4 (ev_var rfl) BC.cl BC.n4)) (fun _ => go_end (y := false) ev_bl out (hC := fun c z => z)) (fun h => by cases h)
  | some c =>
    refine go_ifr (et_isN (ev_fld 4 (ev_var rfl) BC.cl BC.n4)) (fun h => by cases h) (fun _ => ?_)
    refine go_set (x := (inN ns bs).filter fun o => decide (o.issuer = iss)) (ev_is (ev_lcf (K := K) (iv_list (ev_var rfl)) tgt_name (by simp) ?_ (fun _ _ _ x _ xm => (et_and (et_of (ev_inSR (r := cell q (cTg tSt ws)) in1 tg_says (ev_fld 0 (ev_var rfl) BC.cl BC.n0) (ev_var rfl))) (fun qa => (et_and (et_of (ev_neS (ev_fld 0 (ev_var rfl) BC.cl BC.n0) (ev_var rfl))) (fun qb => (et_of (ev_eqS (ev_fld 1 (ev_var rfl) BC.cl BC.n1) (ev_fld 1 (ev_var rfl) BC.cl BC.n1)))))))) (fun _ _ _ x _ xm px => (ev_var rfl))) (by rw [ew]; exact eqF)) ?_
    · exact lz
    refine go_end (y := boundB ⟨nm, iss, un, fc, some c⟩ (inN ns bs)) (ev_is (ev_cmp (ev_call (z := (_, _)) (ea_cons (ev_call (z := _) (ea_cons (ev_lcm (K := K) (iv_list (ev_var rfl)) tgt_name (by simp) ?_ (fun _ _ _ x _ xm => (ev_call (z := _) (ea_cons (ev_var rfl) ea_nil) ?_))) ea_nil) ?_) (ea_cons (ev_some (ev_fld 4 (ev_var rfl) BC.cl BC.n4)) ea_nil)) ?_) ev_int) ?_) out (hC := fun c z => z)
    · exact Nat.lt_of_le_of_lt len0 (by rw [sizeLine_eq]; omega)
    · exact ok x (List.mem_filter.mp (List.mem_filter.mp xm).1).1
    · exact ⟨sub, Nat.le_trans len (by decide)⟩
    · refine ⟨?_, (hb.cs c rfl).mono (by decide)⟩
      have h1 := rsum_sz sub
      exact h1.mono (by omega)
    · rfl
end
end Cs
set_option maxHeartbeats 4000000
namespace Cs
open PySem PySem.Spec PyProof.Rows L2
local macro_rules | `(tactic| walk_at "rd") => `(tactic| (first
  | (refine ⟨_, rfl, ?_⟩)
  | (refine ⟨_, _, rfl, rfl, ?_⟩)
  | (refine .inl ⟨_, rfl, ?_⟩)
  | (refine .inr ⟨_, rfl, ?_⟩)
  | (refine ⟨_, _, _, _, rfl, rfl, SqL.of upd_same, rfl, ?_⟩)
  | (refine ⟨_, _, _, _, rfl, rfl, upd_same, rfl, ?_⟩)
  | (refine ⟨_, ?xs, _, ?v, rfl, rfl, ?h, ?x, ?_⟩; (case h => first | exact SqL.of (by assumption) | exact SqT.of (by assumption) | assumption); (case x => first | rfl | exact atI_nat (j := 0) rfl | exact atI_nat (j := 1) rfl))))
local macro_rules | `(tactic| walk_at "isi") => `(tactic| (first
  | (refine ⟨_, _, _, _, _, rfl, .ty _, .base (.int _), kit_ty kit_it, ?_⟩)
  | (refine ⟨_, _, _, _, _, rfl, .ty _, .base (.int _), kit_ty kit_ib, ?_⟩)
  | (refine ⟨_, _, _, _, _, rfl, .ty _, .base (.int _), kit_ty kit_ii, ?_⟩)
  | (refine ⟨_, _, _, _, _, rfl, .ty _, .base (.bl _), kit_ty kit_bt, ?_⟩)
  | (refine ⟨_, _, _, _, _, rfl, .ty _, .base (.bl _), kit_ty kit_bb, ?_⟩)
  | (refine ⟨_, _, _, _, _, rfl, .ty _, .base (.bl _), kit_ty kit_bi, ?_⟩)))
local macro_rules | `(tactic| walk_at "ev") => `(tactic| (first
  | exact ev_var rfl
  | exact ev_int
  | exact ev_str
  | exact ev_bl
  | exact ev_non
  | (refine ev_add ?_ ?_ <;> walk_at "ev")
  | (refine ev_sub ?_ ?_ <;> walk_at "ev")
  | (refine ev_mul ?_ ?_ ?_ <;> (try walk_at "ev"))
  | (refine ev_neg ?_ <;> walk_at "ev")
  | (refine ev_num ?_ <;> walk_at "ev")
  | (refine ev_den ?_ <;> walk_at "ev")
  | (refine ev_cmp ?_ ?_ <;> walk_at "ev")
  | (refine ev_eqI ?_ ?_ <;> walk_at "ev")
  | (refine ev_eqS ?_ ?_ <;> walk_at "ev")
  | (refine ev_neI ?_ ?_ <;> walk_at "ev")
  | (refine ev_neS ?_ ?_ <;> walk_at "ev")
  | (refine ev_inS ?_ ?_ <;> walk_at "ev")
  | (refine ev_niS ?_ ?_ <;> walk_at "ev")
  | (refine ev_len ?_ <;> walk_at "ev")
  | (refine ev_list ?_ <;> walk_at "ev")
  | (refine ev_listRev ?_ <;> walk_at "ev")
  | (refine ev_int1 ?_ <;> walk_at "ev")))
local macro_rules | `(tactic| walk_at "ea") => `(tactic| (first
  | exact ea_nil
  | (refine ea_cons ?_ ?_ <;> (first | walk_at "ev" | walk_at "ea" | skip))))
local macro_rules | `(tactic| walk_at "sb") => `(tactic| (first | exact True.intro | (refine And.intro rfl ?_; walk_at "sb")))
section
variable {P : Program} {w : World} {K : PySem.W.Frag} {mg : Str → Option Value} {base : Heap}
structure LdOk (x : DfArgs) : Prop where
  ok : ∀ b ∈ x.bs, BdOk b
  l6 : x.bs.length ≤ 6
  nd : (x.bs.map Bd.name).Nodup
  lo : x.ow.length ≤ 100
abbrev spLDef (K : PySem.W.Frag) (CB : Addr) : Sp := spN (fun _ => []) (fun x : DfArgs => [(tLs K (tBd K CB)).is x.bs, (tLs K tSt).is x.ow, (tLs K tSt).is x.ex]) (tLs K tSt) LdOk (fun x ys => ∃ ks, Least x.bs x.ow x.ex ks ∧ ys = (inN ks x.bs).map Bd.name)
theorem left_add {bs : List Bd} {ks : List Str} {b : Bd} (mb : b ∈ bs) (h : b.name ∉ ks) : left bs (ks ++ [b.name]) < left bs ks := by
  unfold left
  have sub : ((bs.filter fun o => !decide (o.name ∈ ks ++ [b.name]))).Sublist (bs.filter fun o => !decide (o.name ∈ ks)) := filter_sub (fun o ho => by
    simp only [Bool.not_eq_true', decide_eq_false_iff_not] at ho ⊢
    exact fun z => ho (List.mem_append_left _ z)) _
  rcases Nat.lt_or_ge ((bs.filter fun o => !decide (o.name ∈ ks ++ [b.name])).length) ((bs.filter fun o => !decide (o.name ∈ ks)).length) with q | q
  · exact q
  · have e := sub.eq_of_length_le q
    have : b ∈ bs.filter fun o => !decide (o.name ∈ ks) := List.mem_filter.mpr ⟨mb, by simp [h]⟩
    rw [← e] at this
    have := (List.mem_filter.mp this).2
    simp at this
theorem left_zero {bs : List Bd} {ks ex : List Str} (h : left bs ks = 0) : Closed bs ex ks := fun b mb h1 _ => by
  unfold left at h
  have := List.length_eq_zero_iff.mp h
  have m : b ∈ bs.filter fun o => !decide (o.name ∈ ks) := List.mem_filter.mpr ⟨mb, by simp [h1]⟩
  rw [this] at m
  cases m
structure FndOk (x : DfArgs) (c : List (V × Str)) : Prop where
  own : ∀ z, z ∈ x.ow → z ∈ c.map (·.2)
  least : ∀ T, (∀ z, z ∈ x.ow → z ∈ T) → Closed x.bs x.ex T → ∀ z, z ∈ c.map (·.2) → z ∈ T
  l : c.length + left x.bs (c.map (·.2)) ≤ 106
abbrev sLDef : Stmt := topS 36
theorem scLDef : FnScope ["bonds", "own", "exempt", "found", "turn", "bond"] ["bonds", "own", "exempt"] (defScope sLDef) := ⟨rfl, rfl, rfl, by decide +kernel, rfl, by decide +kernel, by decide +kernel⟩
theorem ok_ldef {f CB : Addr} {fd : FuncData} {k : Nat} (F : Fun K "_law_defaults" "_law_defaults" sLDef f fd) (BC : BondC K CB) (c_law_bound : Cal P w K mg base k "_law_bound" ["bonds", "name", "names"] (spLBoundC K CB)) (z_len : mg "len" = none) (z_range : mg "range" = none) (z_list : mg "list" = none) : FnOk P w K mg base CX0 (k + 1) f fd ["bonds", "own", "exempt"] (spLDef K CB) := by
  refine ok_N F scLDef (fun _ => rfl) fun cdv A outer s H0 S x Q E hr hp out => ⟨_, (pss_cons (ps_set (i := 3) scLDef.nd rfl (Or.inr rfl) (pe_callTy call_list_of (by rfl) z_list (by decide +kernel) (pa_cons (pv 1) pa_nil)))
      (pss_cons (ps_for PassesOwn.never rfl (pi_range1 rfl z_range (pa_cons (pe_callB call_len_seq (by rfl) z_len PySem.boot_len (pa_cons (pv 0) pa_nil)) pa_nil)) (pg_name (i := 4) scLDef.nd rfl (Or.inl rfl)) (pss_one (ps_for PassesOwn.never rfl (pi_list (pv 0)) (pg_name (i := 5) scLDef.nd rfl (Or.inl rfl)) (pss_one (ps_if (PW.pt (pw_and (pt_cmpR op_notIn_seq (pe_fld (pv 5) rfl) (pv 3) (by rfl)) (pw_and (pt_cmpR op_notIn_seq (pe_fld (pv 5) rfl) (pv 2) (by rfl)) (pw_and1 (pt_val (pe_cal c_law_bound hr (by rfl) (pa_cons (pv 0) (pa_cons (pe_fld (pv 5) rfl) (pa_cons (pv 3) pa_nil))))))))) (pss_one (ps_expr (pe_bm PySem.F.plainAttrs_list PySem.F.slot_list_append PySem.F.type_list_append mt_append (pv 3) (pa_cons (pe_fld (pv 5) rfl) pa_nil)))) pss_nil)))))
      (pss_one (ps_ret (pe_lc (own := [("bond", 5)]) (g := gName 5)  rfl scLDef.nd (pi_list (pv 0)) (blkOk_by (own := [("bond", 5)]) (N := ["bonds", "own", "exempt", "found", "turn", "bond"]) (sc := defScope sLDef) (by decide +kernel)) (fun _ _ _ _ _ => (pg_name (i := 5) scLDef.nd rfl (Or.inl rfl))) (fun _ _ _ _ _ => (pts_one (pt_cmpR (op_inK (K := K) rfl) (pe_fldK (K := K) rfl (pv 5) rfl) (pv 3) (by rfl)))) (fun _ _ _ _ _ => (pe_fldK (K := K) rfl (pv 5) rfl))))))), ?_⟩
  obtain ⟨bs, ow, ex⟩ := x
  obtain ⟨ok, l6, nd, lo⟩ := hp
  have ok : ∀ b ∈ bs, BdOk b := ok
  have l6 : bs.length ≤ 6 := l6
  have nd : (bs.map Bd.name).Nodup := nd
  have lo : ow.length ≤ 100 := lo
  have sz : ∀ n, n ≤ 1000000 → n < sizeLine := fun n h => by rw [sizeLine_eq]; omega
  refine go_listT (K := K) (t := tSt) (xs := ow) (ev_var rfl) fun p c0 np ec0 => ?_
  refine go_seq (go_for (iv_range1 (ev_len (ev_var rfl)) ?_ ?_) tgt_name (fun k (c : List (V × Str)) => ([cell p (cTg tSt c)], [some ((tLs K (tBd K CB)).is bs), some ((tLs K tSt).is ow), some ((tLs K tSt).is ex), some (tRf.is p), none, none])) (fun k c => FndOk ⟨bs, ow, ex⟩ c ∧ (Closed bs ex (c.map (·.2)) ∨ left bs (c.map (·.2)) + k ≤ bs.length)) c0 ⟨⟨fun z m => by rw [ec0]; exact m, fun T h _ z m => h z (ec0 ▸ m), ?_⟩, .inr (by have := left_le bs (c0.map (·.2)); omega)⟩ (fun σ H o => o.sb (by walk_at "sb")) (fun k c1 x f hx hc1 => ?_) (fun c hc σ H o => ?_))
  · show -2 ^ 62 ≤ ((bs.length : Nat) : Int)
    omega
  · show ((bs.length : Nat) : Int) < 2 ^ 62
    omega
  · have h1 : c0.length = ow.length := by rw [← ec0, List.length_map]
    have := left_le bs (c0.map (·.2))
    show c0.length + left bs (c0.map (·.2)) ≤ 106
    omega
  · obtain ⟨fo1, hcl⟩ := hc1
    refine go_for (iv_list (ev_var rfl)) tgt_name (fun i (c : List (V × Str)) => ([cell p (cTg tSt c)], [some ((tLs K (tBd K CB)).is bs), some ((tLs K tSt).is ow), some ((tLs K tSt).is ex), some (tRf.is p), none, none])) (fun i c => FndOk ⟨bs, ow, ex⟩ c ∧ (Closed bs ex (c1.map (·.2)) → c = c1) ∧ ((c = c1 ∧ ∀ b ∈ bs.take i, b.name ∉ c1.map (·.2) → b.name ∉ ex → boundB b (inN (c1.map (·.2)) bs) = false) ∨ left bs (c.map (·.2)) < left bs (c1.map (·.2)))) c1 ⟨fo1, fun _ => rfl, .inl ⟨rfl, fun b m => nomatch m⟩⟩ (fun σ H o => o.sb (by walk_at "sb")) (fun i c b f2 hb hc => ?_) (fun c hc σ H o => ?_)
    · obtain ⟨fo, hc1, hc2⟩ := hc
      have mb : b ∈ bs := List.mem_of_getElem? hb
      refine go_if (et_and (et_of (ev_niSR (r := cell p (cTg tSt c)) in0 tg_says (ev_fld 0 (ev_var rfl) BC.cl BC.n0) (ev_var rfl))) (fun qa => (et_and (et_of (ev_niS (ev_fld 0 (ev_var rfl) BC.cl BC.n0) (ev_var rfl))) (fun qb => (et_B (Evx.ev (evx_call (z := (LbArgs.mk _ b (c.map (·.2)), p, c)) (ea_cons (ev_var rfl) (ea_cons (ev_fld 0 (ev_var rfl) BC.cl BC.n0) (ea_cons (ev_var rfl) ea_nil))) ?_))))))) (fun h => ?_) (fun h => go_next fun σ H o => ⟨c, ⟨fo, hc1, ?_⟩, o.sb (by walk_at "sb")⟩)
      · exact ⟨⟨mb, nd, by simpa using qa, ok, by show bs.length ≤ 20; omega⟩, rfl⟩
      · have h : (!decide (b.name ∈ c.map (·.2)) && (!decide (b.name ∈ ex) && boundB b (inN (c.map (·.2)) bs))) = true := h
        simp only [Bool.and_eq_true, Bool.not_eq_true', decide_eq_false_iff_not] at h
        obtain ⟨n1, n2, n3⟩ := h
        have lt := left_add mb n1
        refine go_app1T (K := K) (t := tSt) (x := b.name) (List.Perm.refl _) (ev_var rfl) (ev_fld 0 (ev_var rfl) BC.cl BC.n0) (sz _ (by have := fo.l; omega)) rfl fun v σ H o => ⟨c ++ [(v, b.name)], ⟨⟨fun z m => ?_, fun T h1 h2 z m => ?_, ?_⟩, fun hcl => ?_, .inr ?_⟩, o.sb (by walk_at "sb")⟩
        · rw [List.map_append]
          exact List.mem_append_left _ (fo.own z m)
        · rw [List.map_append] at m
          rcases List.mem_append.mp m with m | m
          · exact fo.least T h1 h2 z m
          · rw [List.mem_singleton.mp m]
            by_cases q : b.name ∈ T
            · exact q
            · have := h2 b mb q n2
              rw [boundB_mono ok (fo.least T h1 h2) n3] at this
              cases this
        · have := fo.l
          rw [List.map_append, List.length_append]
          show c.length + 1 + left bs (c.map (·.2) ++ [b.name]) ≤ 106
          have l3 : c.length + left bs (c.map (·.2)) ≤ 106 := this
          omega
        · have e := hc1 hcl
          subst e
          have := hcl b mb n1 n2
          rw [n3] at this
          cases this
        · rw [List.map_append]
          show left bs (c.map (·.2) ++ [b.name]) < _
          rcases hc2 with ⟨e, _⟩ | h3
          · rw [← e]; exact lt
          · omega
      · have h : (!decide (b.name ∈ c.map (·.2)) && (!decide (b.name ∈ ex) && boundB b (inN (c.map (·.2)) bs))) = false := h
        rcases hc2 with ⟨e, h3⟩ | h3
        · subst e
          refine .inl ⟨rfl, fun b' m n1 n2 => ?_⟩
          rw [take_snoc hb] at m
          rcases List.mem_append.mp m with m | m
          · exact h3 b' m n1 n2
          · rw [List.mem_singleton.mp m] at n1 n2 ⊢
            simpa [n1, n2] using h
        · exact .inr h3
    · obtain ⟨fo, h1, h2⟩ := hc
      refine ⟨c, ⟨fo, ?_⟩, o.sb (by walk_at "sb")⟩
      rw [List.take_length] at h2
      rcases hcl with hcl | hcl
      · rw [h1 hcl]
        exact .inl hcl
      · rcases h2 with ⟨e, h3⟩ | h3
        · subst e
          exact .inl fun b mb n1 n2 => h3 b mb n1 n2
        · exact .inr (by omega)
  · obtain ⟨fo, hcl⟩ := hc
    have hcl : Closed bs ex (c.map (·.2)) := by
      rcases hcl with hcl | hcl
      · exact hcl
      · have hcl : left bs (c.map (·.2)) + ((List.range ((bs.length : Nat) : Int).toNat).map fun (i : Nat) => (i : Int)).length ≤ bs.length := hcl
        rw [List.length_map, List.length_range] at hcl
        exact left_zero (by omega)
    dsimp only at o ⊢
    refine go_at o (go_end (y := (inN (c.map (·.2)) bs).map Bd.name) (ev_lcf (K := K) (iv_list (ev_var rfl)) tgt_name (by simp) ?_ (fun _ _ _ x _ xm => (et_of (ev_inSR (r := cell p (cTg tSt c)) in1 tg_says (ev_fld 0 (ev_var rfl) BC.cl BC.n0) (ev_var rfl)))) (fun _ _ _ x _ xm px => (ev_fld 0 (ev_var rfl) BC.cl BC.n0))) out (hp := ⟨_, ⟨fo.own, hcl, fo.least⟩, rfl⟩) (hC := fun c z => nomatch z))
    exact sz _ (by show bs.length ≤ _; omega)
end
end Cs
set_option maxHeartbeats 4000000
namespace Cs
open PySem PySem.Spec PyProof.Rows L2
local macro_rules | `(tactic| walk_at "rd") => `(tactic| (first
  | (refine ⟨_, rfl, ?_⟩)
  | (refine ⟨_, _, rfl, rfl, ?_⟩)
  | (refine .inl ⟨_, rfl, ?_⟩)
  | (refine .inr ⟨_, rfl, ?_⟩)
  | (refine ⟨_, _, _, _, rfl, rfl, SqL.of upd_same, rfl, ?_⟩)
  | (refine ⟨_, _, _, _, rfl, rfl, upd_same, rfl, ?_⟩)
  | (refine ⟨_, ?xs, _, ?v, rfl, rfl, ?h, ?x, ?_⟩; (case h => first | exact SqL.of (by assumption) | exact SqT.of (by assumption) | assumption); (case x => first | rfl | exact atI_nat (j := 0) rfl | exact atI_nat (j := 1) rfl))))
local macro_rules | `(tactic| walk_at "isi") => `(tactic| (first
  | (refine ⟨_, _, _, _, _, rfl, .ty _, .base (.int _), kit_ty kit_it, ?_⟩)
  | (refine ⟨_, _, _, _, _, rfl, .ty _, .base (.int _), kit_ty kit_ib, ?_⟩)
  | (refine ⟨_, _, _, _, _, rfl, .ty _, .base (.int _), kit_ty kit_ii, ?_⟩)
  | (refine ⟨_, _, _, _, _, rfl, .ty _, .base (.bl _), kit_ty kit_bt, ?_⟩)
  | (refine ⟨_, _, _, _, _, rfl, .ty _, .base (.bl _), kit_ty kit_bb, ?_⟩)
  | (refine ⟨_, _, _, _, _, rfl, .ty _, .base (.bl _), kit_ty kit_bi, ?_⟩)))
local macro_rules | `(tactic| walk_at "ev") => `(tactic| (first
  | exact ev_var rfl
  | exact ev_int
  | exact ev_str
  | exact ev_bl
  | exact ev_non
  | (refine ev_add ?_ ?_ <;> walk_at "ev")
  | (refine ev_sub ?_ ?_ <;> walk_at "ev")
  | (refine ev_mul ?_ ?_ ?_ <;> (try walk_at "ev"))
  | (refine ev_neg ?_ <;> walk_at "ev")
  | (refine ev_num ?_ <;> walk_at "ev")
  | (refine ev_den ?_ <;> walk_at "ev")
  | (refine ev_cmp ?_ ?_ <;> walk_at "ev")
  | (refine ev_eqI ?_ ?_ <;> walk_at "ev")
  | (refine ev_eqS ?_ ?_ <;> walk_at "ev")
  | (refine ev_neI ?_ ?_ <;> walk_at "ev")
  | (refine ev_neS ?_ ?_ <;> walk_at "ev")
  | (refine ev_inS ?_ ?_ <;> walk_at "ev")
  | (refine ev_niS ?_ ?_ <;> walk_at "ev")
  | (refine ev_len ?_ <;> walk_at "ev")
  | (refine ev_list ?_ <;> walk_at "ev")
  | (refine ev_listRev ?_ <;> walk_at "ev")
  | (refine ev_int1 ?_ <;> walk_at "ev")))
local macro_rules | `(tactic| walk_at "ea") => `(tactic| (first
  | exact ea_nil
  | (refine ea_cons ?_ ?_ <;> (first | walk_at "ev" | walk_at "ea" | skip))))
local macro_rules | `(tactic| walk_at "sb") => `(tactic| (first | exact True.intro | (refine And.intro rfl ?_; walk_at "sb")))
section
variable {P : Program} {w : World} {K : PySem.W.Frag} {mg : Str → Option Value} {base : Heap}
/-! ### the law's steps and the program's -/
theorem ex_own {bs : List Bd} {ow ex ks : List Str} (ok : ∀ b ∈ bs, BdOk b) (L : Least bs ow ex ks) {z : Str} (hk : z ∈ ks) (he : z ∈ ex) : z ∈ ow := by
  by_cases q : z ∈ ow
  · exact q
  have := L.least (ks.filter fun y => !decide (y = z)) (fun y m => List.mem_filter.mpr ⟨L.own y m, by
    have : y ≠ z := fun e => q (e ▸ m)
    simp [this]⟩) (fun c mc h1 h2 => ?_) z hk
  · have h := (List.mem_filter.mp this).2
    simp at h
  · have hc : c.name ∉ ks := fun m => h1 (List.mem_filter.mpr ⟨m, by
      have : c.name ≠ z := fun e => h2 (e ▸ he)
      simp [this]⟩)
    have h3 := L.cl c mc hc h2
    cases e : boundB c (inN (ks.filter fun y => !decide (y = z)) bs) with
    | false => rfl
    | true =>
      rw [boundB_mono ok (fun y m => (List.mem_filter.mp m).1) e] at h3
      cases h3
theorem bound_before {bs ms : List Bd} {ks w : List Str} {iss : Str} (hm : ms.Perm (matesOf bs iss ks)) (hw : ∀ z ∈ w, z ∈ ks) {b : Bd} (bi : b.issuer = iss) : boundB b (beforeR ms w) = boundB b (inN w bs) := by
  unfold boundB
  cases b.cross with
  | none => rfl
  | some c =>
    have : load b (beforeR ms w) = load b (inN w bs) := by
      unfold load beforeR inN
      refine rsum_perm (List.Perm.map _ ?_)
      refine ((hm.filter fun o => decide (o.name ∈ w)).filter fun o => decide (o.issuer = b.issuer)).trans ?_
      unfold matesOf
      rw [List.filter_filter, List.filter_filter, List.filter_filter]
      refine List.Perm.of_eq (List.filter_congr fun o mo => ?_)
      rw [Bool.eq_iff_iff]
      simp only [Bool.and_eq_true, decide_eq_true_eq, bi]
      exact ⟨fun h => h.1, fun h => ⟨h, h.1, hw _ h.2⟩⟩
    rw [this]
theorem step_iff {bs ms : List Bd} {ow ex ks w : List Str} {iss : Str} (ok : ∀ b ∈ bs, BdOk b) (nd : (bs.map Bd.name).Nodup) (L : Least bs ow ex ks) (hm : ms.Perm (matesOf bs iss ks)) (hw : ∀ z ∈ w, z ∈ ks) {b : Bd} (mb : b ∈ bs) (bi : b.issuer = iss) : stepB bs ow ex w b.name = true ↔ b ∈ ms ∧ folB ms ow w b = true := by
  have mms : b ∈ ms ↔ b.name ∈ ks := by
    rw [hm.mem_iff]
    unfold matesOf
    rw [List.mem_filter]
    simp [mb, bi]
  unfold stepB folB
  rw [lbB_of nd mb, bound_before hm hw bi, mms]
  simp only [Bool.and_eq_true, Bool.or_eq_true, Bool.not_eq_true', decide_eq_true_eq, decide_eq_false_iff_not]
  constructor
  · rintro ⟨h1, h2⟩
    refine ⟨?_, h1, h2.imp id (·.2)⟩
    rcases h2 with h2 | ⟨h2, h3⟩
    · exact L.own _ h2
    · by_cases q : b.name ∈ ks
      · exact q
      · have := L.cl b mb q h2
        rw [boundB_mono ok hw h3] at this
        cases this
  · rintro ⟨h0, h1, h2⟩
    refine ⟨h1, ?_⟩
    by_cases q : b.name ∈ ow
    · exact .inl q
    · exact .inr ⟨fun e => q (ex_own ok L h0 e), h2.resolve_left q⟩
end
end Cs
set_option maxHeartbeats 4000000
namespace Cs
open PySem PySem.Spec PyProof.Rows L2
local macro_rules | `(tactic| walk_at "rd") => `(tactic| (first
  | (refine ⟨_, rfl, ?_⟩)
  | (refine ⟨_, _, rfl, rfl, ?_⟩)
  | (refine .inl ⟨_, rfl, ?_⟩)
  | (refine .inr ⟨_, rfl, ?_⟩)
  | (refine ⟨_, _, _, _, rfl, rfl, SqL.of upd_same, rfl, ?_⟩)
  | (refine ⟨_, _, _, _, rfl, rfl, upd_same, rfl, ?_⟩)
  | (refine ⟨_, ?xs, _, ?v, rfl, rfl, ?h, ?x, ?_⟩; (case h => first | exact SqL.of (by assumption) | exact SqT.of (by assumption) | assumption); (case x => first | rfl | exact atI_nat (j := 0) rfl | exact atI_nat (j := 1) rfl))))
local macro_rules | `(tactic| walk_at "isi") => `(tactic| (first
  | (refine ⟨_, _, _, _, _, rfl, .ty _, .base (.int _), kit_ty kit_it, ?_⟩)
  | (refine ⟨_, _, _, _, _, rfl, .ty _, .base (.int _), kit_ty kit_ib, ?_⟩)
  | (refine ⟨_, _, _, _, _, rfl, .ty _, .base (.int _), kit_ty kit_ii, ?_⟩)
  | (refine ⟨_, _, _, _, _, rfl, .ty _, .base (.bl _), kit_ty kit_bt, ?_⟩)
  | (refine ⟨_, _, _, _, _, rfl, .ty _, .base (.bl _), kit_ty kit_bb, ?_⟩)
  | (refine ⟨_, _, _, _, _, rfl, .ty _, .base (.bl _), kit_ty kit_bi, ?_⟩)))
local macro_rules | `(tactic| walk_at "ev") => `(tactic| (first
  | exact ev_var rfl
  | exact ev_int
  | exact ev_str
  | exact ev_bl
  | exact ev_non
  | (refine ev_add ?_ ?_ <;> walk_at "ev")
  | (refine ev_sub ?_ ?_ <;> walk_at "ev")
  | (refine ev_mul ?_ ?_ ?_ <;> (try walk_at "ev"))
  | (refine ev_neg ?_ <;> walk_at "ev")
  | (refine ev_num ?_ <;> walk_at "ev")
  | (refine ev_den ?_ <;> walk_at "ev")
  | (refine ev_cmp ?_ ?_ <;> walk_at "ev")
  | (refine ev_eqI ?_ ?_ <;> walk_at "ev")
  | (refine ev_eqS ?_ ?_ <;> walk_at "ev")
  | (refine ev_neI ?_ ?_ <;> walk_at "ev")
  | (refine ev_neS ?_ ?_ <;> walk_at "ev")
  | (refine ev_inS ?_ ?_ <;> walk_at "ev")
  | (refine ev_niS ?_ ?_ <;> walk_at "ev")
  | (refine ev_len ?_ <;> walk_at "ev")
  | (refine ev_list ?_ <;> walk_at "ev")
  | (refine ev_listRev ?_ <;> walk_at "ev")
  | (refine ev_int1 ?_ <;> walk_at "ev")))
local macro_rules | `(tactic| walk_at "ea") => `(tactic| (first
  | exact ea_nil
  | (refine ea_cons ?_ ?_ <;> (first | walk_at "ev" | walk_at "ea" | skip))))
local macro_rules | `(tactic| walk_at "sb") => `(tactic| (first | exact True.intro | (refine And.intro rfl ?_; walk_at "sb")))
section
variable {P : Program} {w : World} {K : PySem.W.Frag} {mg : Str → Option Value} {base : Heap}
theorem row_snoc {bs : List Bd} {ow ex w : List Str} {z : Str} : IsRow bs ow ex (w ++ [z]) ↔ IsRow bs ow ex w ∧ stepB bs ow ex w z = true := by
  constructor
  · intro h
    refine ⟨fun k y hy => ?_, ?_⟩
    · have hk := (List.getElem?_eq_some_iff.mp hy).1
      have := h k y (by rw [List.getElem?_append_left hk]; exact hy)
      rwa [List.take_append_of_le_length (by omega)] at this
    · have := h w.length z (by rw [List.getElem?_append_right (Nat.le_refl _), Nat.sub_self]; rfl)
      rwa [List.take_append_of_le_length (Nat.le_refl _), List.take_length] at this
  · rintro ⟨h1, h2⟩ k y hy
    by_cases hk : k < w.length
    · rw [List.take_append_of_le_length (by omega)]
      exact h1 k y (by rwa [List.getElem?_append_left hk] at hy)
    · have hk2 : k < (w ++ [z]).length := (List.getElem?_eq_some_iff.mp hy).1
      rw [List.length_append, List.length_singleton] at hk2
      obtain rfl : k = w.length := by omega
      rw [List.getElem?_append_right (Nat.le_refl _), Nat.sub_self] at hy
      obtain rfl : z = y := Option.some.inj hy
      rw [List.take_append_of_le_length (Nat.le_refl _), List.take_length]
      exact h2
theorem filter_map_congr {α β : Type} {f : α → β} {p : β → Bool} {q : α → Bool} : ∀ {l : List α}, (∀ x ∈ l, p (f x) = q x) → (l.map f).filter p = (l.filter q).map f := fun {l} h => by
  rw [List.filter_map]
  congr 1
  exact List.filter_congr fun x m => h x m
structure BrOk (x : DfArgs) (ks os : List Str) (iss nm : Str) (ms : List Bd) : Prop where
  ok : ∀ b ∈ x.bs, BdOk b
  nd : (x.bs.map Bd.name).Nodup
  L : Least x.bs x.ow x.ex ks
  po : os.Perm ((x.bs.filter fun b => decide (b.issuer = iss) && !decide (b.name = nm)).map Bd.name)
  so : os.Pairwise leL
  hm : ms = (matesOf x.bs iss ks).mergeSort leB
theorem rows_same {x : DfArgs} {ks os : List Str} {iss nm : Str} {ms : List Bd} (B : BrOk x ks os iss nm ms) : ∀ n, WLw x os n = WN ms x.ow nm n ∧ ∀ w ∈ WN ms x.ow nm n, IsRow x.bs x.ow x.ex w ∧ ∀ z ∈ w, z ∈ ks := by
  obtain ⟨bs, ow, ex⟩ := x
  obtain ⟨ok, nd, L, po, so, hm⟩ := B
  have ok : ∀ b ∈ bs, BdOk b := ok
  have nd : (bs.map Bd.name).Nodup := nd
  have pm : ms.Perm (matesOf bs iss ks) := by rw [hm]; exact List.mergeSort_perm ..
  have mms : ∀ b, b ∈ ms ↔ b ∈ bs ∧ b.issuer = iss ∧ b.name ∈ ks := fun b => by
    rw [pm.mem_iff]
    unfold matesOf
    rw [List.mem_filter]
    simp only [Bool.and_eq_true, decide_eq_true_eq]
  have eo : os.filter (fun z => decide (z ∈ ks)) = (ms.filter fun b => !decide (b.name = nm)).map Bd.name := by
    rw [hm]
    exact others_mates po so
  intro n
  induction n with
  | zero => exact ⟨rfl, fun w m => by rw [List.mem_singleton.mp m]; exact ⟨(fun k z h => by cases h), (fun z m => nomatch m)⟩⟩
  | succ n ih =>
    obtain ⟨h1, h2⟩ := ih
    have hfol : ∀ w ∈ WN ms ow nm n, lfol ⟨bs, ow, ex⟩ os w = folN ms ow nm w := fun w mw => by
      obtain ⟨rw1, rw2⟩ := h2 w mw
      have hgo : ∀ b, b ∈ bs → b.issuer = iss → (lgo ⟨bs, ow, ex⟩ w b.name = true ↔ b ∈ ms ∧ folB ms ow w b = true) := fun b mb bi => by
        rw [← step_iff ok nd L pm rw2 mb bi]
        unfold lgo
        rw [Bool.and_eq_true, isRowB_iff, row_snoc]
        constructor
        · exact fun h => h.2.2
        · intro h
          refine ⟨?_, rw1, h⟩
          unfold stepB at h
          exact (Bool.and_eq_true_iff.mp h).1
      have e1 : os.filter (lgo ⟨bs, ow, ex⟩ w) = (os.filter fun z => decide (z ∈ ks)).filter (lgo ⟨bs, ow, ex⟩ w) := by
        rw [List.filter_filter]
        refine List.filter_congr fun z mz => ?_
        obtain ⟨b, mb, rfl⟩ := List.mem_map.mp (po.mem_iff.mp mz)
        obtain ⟨m1, m2⟩ := List.mem_filter.mp mb
        simp only [Bool.and_eq_true, decide_eq_true_eq] at m2
        cases q : lgo ⟨bs, ow, ex⟩ w b.name with
        | false => rfl
        | true =>
          have := ((mms b).mp ((hgo b m1 m2.1).mp q).1).2.2
          simp [this]
      unfold lfol folN
      rw [e1, eo, filter_map_congr (q := fun b => folB ms ow w b), List.filter_filter, List.map_map]
      · rfl
      · intro b mb
        have mb := (List.mem_filter.mp mb).1
        have := (mms b).mp mb
        rw [Bool.eq_iff_iff, hgo b this.1 this.2.1]
        exact ⟨fun h => h.2, fun h => ⟨mb, h⟩⟩
    refine ⟨?_, fun w m => ?_⟩
    · show (WLw _ os n).flatMap _ = (WN ms ow nm n).flatMap _
      rw [h1]
      have key : ∀ l : List (List Str), (∀ w ∈ l, lfol ⟨bs, ow, ex⟩ os w = folN ms ow nm w) → l.flatMap (lfol ⟨bs, ow, ex⟩ os) = l.flatMap (folN ms ow nm) := by
        intro l
        induction l with
        | nil => intro _; rfl
        | cons y l ih => intro hl; rw [List.flatMap_cons, List.flatMap_cons, hl y (List.mem_cons_self ..), ih fun w m => hl w (List.mem_cons_of_mem _ m)]
      exact key _ hfol
    · obtain ⟨w0, m0, m1⟩ := List.mem_flatMap.mp m
      obtain ⟨b, mb, rfl⟩ := List.mem_map.mp m1
      obtain ⟨m2, m3⟩ := List.mem_filter.mp mb
      rw [Bool.and_eq_true] at m3
      obtain ⟨r1, r2⟩ := h2 w0 m0
      have hb := (mms b).mp m2
      refine ⟨row_snoc.mpr ⟨r1, (step_iff ok nd L pm r2 hb.1 hb.2.1).mpr ⟨m2, m3.1⟩⟩, fun z mz => ?_⟩
      rcases List.mem_append.mp mz with mz | mz
      · exact r2 z mz
      · rw [List.mem_singleton.mp mz]; exact hb.2.2
theorem valid_same {x : DfArgs} {ks os : List Str} {iss nm : Str} {ms : List Bd} (B : BrOk x ks os iss nm ms) {b : Bd} (mb : b ∈ x.bs) (eb : b.name = nm) (bi : b.issuer = iss) {n : Nat} {w : List Str} (mw : w ∈ WN ms x.ow nm n) : isRowB x.bs x.ow x.ex (w ++ [nm]) = vN ms x.ow nm w := by
  obtain ⟨r1, r2⟩ := (rows_same B n).2 w mw
  have pm : ms.Perm (matesOf x.bs iss ks) := by rw [B.hm]; exact List.mergeSort_perm ..
  rw [Bool.eq_iff_iff, isRowB_iff, row_snoc]
  unfold vN
  rw [List.any_eq_true, ← eb, step_iff B.ok B.nd B.L pm r2 mb bi]
  constructor
  · rintro ⟨_, h1, h2⟩
    exact ⟨b, h1, by simp [h2]⟩
  · rintro ⟨c, mc, h⟩
    simp only [Bool.and_eq_true, decide_eq_true_eq] at h
    have e : c = b := nameB_inj B.nd (List.mem_filter.mp (pm.mem_iff.mp mc)).1 mb h.1
    subst e
    exact ⟨r1, mc, h.2⟩
end
end Cs
set_option maxHeartbeats 4000000
namespace Cs
open PySem PySem.Spec PyProof.Rows L2
local macro_rules | `(tactic| walk_at "rd") => `(tactic| (first
  | (refine ⟨_, rfl, ?_⟩)
  | (refine ⟨_, _, rfl, rfl, ?_⟩)
  | (refine .inl ⟨_, rfl, ?_⟩)
  | (refine .inr ⟨_, rfl, ?_⟩)
  | (refine ⟨_, _, _, _, rfl, rfl, SqL.of upd_same, rfl, ?_⟩)
  | (refine ⟨_, _, _, _, rfl, rfl, upd_same, rfl, ?_⟩)
  | (refine ⟨_, ?xs, _, ?v, rfl, rfl, ?h, ?x, ?_⟩; (case h => first | exact SqL.of (by assumption) | exact SqT.of (by assumption) | assumption); (case x => first | rfl | exact atI_nat (j := 0) rfl | exact atI_nat (j := 1) rfl))))
local macro_rules | `(tactic| walk_at "isi") => `(tactic| (first
  | (refine ⟨_, _, _, _, _, rfl, .ty _, .base (.int _), kit_ty kit_it, ?_⟩)
  | (refine ⟨_, _, _, _, _, rfl, .ty _, .base (.int _), kit_ty kit_ib, ?_⟩)
  | (refine ⟨_, _, _, _, _, rfl, .ty _, .base (.int _), kit_ty kit_ii, ?_⟩)
  | (refine ⟨_, _, _, _, _, rfl, .ty _, .base (.bl _), kit_ty kit_bt, ?_⟩)
  | (refine ⟨_, _, _, _, _, rfl, .ty _, .base (.bl _), kit_ty kit_bb, ?_⟩)
  | (refine ⟨_, _, _, _, _, rfl, .ty _, .base (.bl _), kit_ty kit_bi, ?_⟩)))
local macro_rules | `(tactic| walk_at "ev") => `(tactic| (first
  | exact ev_var rfl
  | exact ev_int
  | exact ev_str
  | exact ev_bl
  | exact ev_non
  | (refine ev_add ?_ ?_ <;> walk_at "ev")
  | (refine ev_sub ?_ ?_ <;> walk_at "ev")
  | (refine ev_mul ?_ ?_ ?_ <;> (try walk_at "ev"))
  | (refine ev_neg ?_ <;> walk_at "ev")
  | (refine ev_num ?_ <;> walk_at "ev")
  | (refine ev_den ?_ <;> walk_at "ev")
  | (refine ev_cmp ?_ ?_ <;> walk_at "ev")
  | (refine ev_eqI ?_ ?_ <;> walk_at "ev")
  | (refine ev_eqS ?_ ?_ <;> walk_at "ev")
  | (refine ev_neI ?_ ?_ <;> walk_at "ev")
  | (refine ev_neS ?_ ?_ <;> walk_at "ev")
  | (refine ev_inS ?_ ?_ <;> walk_at "ev")
  | (refine ev_niS ?_ ?_ <;> walk_at "ev")
  | (refine ev_len ?_ <;> walk_at "ev")
  | (refine ev_list ?_ <;> walk_at "ev")
  | (refine ev_listRev ?_ <;> walk_at "ev")
  | (refine ev_int1 ?_ <;> walk_at "ev")))
local macro_rules | `(tactic| walk_at "ea") => `(tactic| (first
  | exact ea_nil
  | (refine ea_cons ?_ ?_ <;> (first | walk_at "ev" | walk_at "ea" | skip))))
local macro_rules | `(tactic| walk_at "sb") => `(tactic| (first | exact True.intro | (refine And.intro rfl ?_; walk_at "sb")))
section
variable {P : Program} {w : World} {K : PySem.W.Frag} {mg : Str → Option Value} {base : Heap}
theorem find_same {p q : List Str → Bool} {l : List (List Str)} (h : ∀ w ∈ l, p w = q w) : l.find? p = l.find? q := find_congr h
theorem short_cause {x : CrArgs} {ks : List Str} {y y' : Option (List Str)} (ok : ∀ b ∈ x.d.bs, BdOk b) (nd : (x.d.bs.map Bd.name).Nodup) (L : Least x.d.bs x.d.ow x.d.ex ks) (hs : Short x y) (hc : (x.nm ∉ ks ∧ y' = none) ∨ (x.nm ∈ ks ∧ ∃ r, y' = some r ∧ CauseAt x ks r)) : y = y' ∧ (y = none ↔ x.nm ∉ ks) := by
  obtain ⟨b, mb, eb, os, po, so, h⟩ := hs
  let ms := (matesOf x.d.bs b.issuer ks).mergeSort leB
  have B : BrOk x.d ks os b.issuer x.nm ms := ⟨ok, nd, L, po, sortedS_pair so, rfl⟩
  have pm : ms.Perm (matesOf x.d.bs b.issuer ks) := List.mergeSort_perm ..
  have hv : ∀ n, (WLw x.d os n).find? (fun r => isRowB x.d.bs x.d.ow x.d.ex (r ++ [x.nm])) = (WN ms x.d.ow x.nm n).find? (vN ms x.d.ow x.nm) := fun n => by
    rw [(rows_same B n).1]
    exact find_same fun w mw => valid_same B mb eb rfl mw
  rcases hc with ⟨hk, rfl⟩ | ⟨hk, r, rfl, b', mb', eb', n, R, hch, hn, hr⟩
  · have none : ∀ n, (WN ms x.d.ow x.nm n).find? (vN ms x.d.ow x.nm) = none := fun n => List.find?_eq_none.mpr fun w mw z => by
      obtain ⟨c, mc, hc⟩ := List.any_eq_true.mp z
      simp only [Bool.and_eq_true, decide_eq_true_eq] at hc
      have := (List.mem_filter.mp (pm.mem_iff.mp mc)).2
      simp only [Bool.and_eq_true, decide_eq_true_eq] at this
      exact hk (hc.1 ▸ this.2)
    rcases h with ⟨L', w, _, _, h3, _⟩ | ⟨_, h2⟩
    · rw [hv, none] at h3
      cases h3
    · exact ⟨h2, fun _ => hk, fun _ => h2⟩
  · have e : b' = b := nameB_inj nd mb' mb (eb'.trans eb.symm)
    subst e
    have hch : Chain ms x.d.ow x.nm n R := hch
    obtain ⟨m, en, hno, hfd⟩ := chain_end hch hn hr
    have hlen : m ≤ os.length := by
      have mr : r ∈ R := (List.mem_filter.mp (List.mem_of_getElem? hr)).1
      have o := hch.ok r mr
      have h1 := nodup_len o.nd o.sub
      rw [o.l, List.length_map] at h1
      have h2 : (ms.filter fun c => !decide (c.name = x.nm)).length ≤ os.length := by
        have := others_mates (ks := ks) po (sortedS_pair so)
        have h3 := congrArg List.length this
        rw [List.length_map] at h3
        rw [show (ms.filter fun c => !decide (c.name = x.nm)).length = _ from h3.symm]
        exact List.length_filter_le ..
      have ndm : (ms.map Bd.name).Nodup := by
        have h4 : ((matesOf x.d.bs b'.issuer ks).map Bd.name).Nodup := nd.sublist (List.Sublist.map _ List.filter_sublist)
        exact (pm.map Bd.name).nodup_iff.mpr h4
      have h5 : ms.length ≤ (ms.filter fun c => !decide (c.name = x.nm)).length + 1 := by
        have key : ∀ l : List Bd, (l.map Bd.name).Nodup → l.length ≤ (l.filter fun c => !decide (c.name = x.nm)).length + 1 := by
          intro l
          induction l with
          | nil => intro _; exact Nat.zero_le _
          | cons c l ih =>
            intro hn
            rw [List.map_cons, List.nodup_cons] at hn
            by_cases q : c.name = x.nm
            · have : l.filter (fun c => !decide (c.name = x.nm)) = l := List.filter_eq_self.mpr fun o mo => by
                have : o.name ≠ x.nm := fun e => hn.1 (q ▸ e ▸ List.mem_map_of_mem mo)
                simp [this]
              rw [List.filter_cons_of_neg (by simp [q]), this]
              exact Nat.le_refl _
            · rw [List.filter_cons_of_pos (by simp [q])]
              have := ih hn.2
              simp only [List.length_cons]
              omega
        exact key ms ndm
      omega
    obtain ⟨w0, hw0, er⟩ := Option.map_eq_some_iff.mp hfd
    rcases h with ⟨L', w, h1, h2, h3, h4⟩ | ⟨h1, _⟩
    · rw [hv] at h3
      have eL : L' = m := by
        rcases Nat.lt_trichotomy L' m with q | q | q
        · have := hno L' q w (List.mem_of_find?_eq_some h3)
          rw [List.find?_some h3] at this
          cases this
        · exact q
        · have := h2 m q
          rw [hv, hw0] at this
          cases this
      subst eL
      rw [h3] at hw0
      obtain rfl := Option.some.inj hw0
      refine ⟨by rw [h4, er], fun e => ?_, fun e => absurd hk e⟩
      rw [h4] at e
      cases e
    · have := h1 m hlen
      rw [hv, hw0] at this
      cases this
end
end Cs
set_option maxHeartbeats 4000000
namespace Cs
open PySem PySem.Spec PyProof.Rows L2
local macro_rules | `(tactic| walk_at "rd") => `(tactic| (first
  | (refine ⟨_, rfl, ?_⟩)
  | (refine ⟨_, _, rfl, rfl, ?_⟩)
  | (refine .inl ⟨_, rfl, ?_⟩)
  | (refine .inr ⟨_, rfl, ?_⟩)
  | (refine ⟨_, _, _, _, rfl, rfl, SqL.of upd_same, rfl, ?_⟩)
  | (refine ⟨_, _, _, _, rfl, rfl, upd_same, rfl, ?_⟩)
  | (refine ⟨_, ?xs, _, ?v, rfl, rfl, ?h, ?x, ?_⟩; (case h => first | exact SqL.of (by assumption) | exact SqT.of (by assumption) | assumption); (case x => first | rfl | exact atI_nat (j := 0) rfl | exact atI_nat (j := 1) rfl))))
local macro_rules | `(tactic| walk_at "isi") => `(tactic| (first
  | (refine ⟨_, _, _, _, _, rfl, .ty _, .base (.int _), kit_ty kit_it, ?_⟩)
  | (refine ⟨_, _, _, _, _, rfl, .ty _, .base (.int _), kit_ty kit_ib, ?_⟩)
  | (refine ⟨_, _, _, _, _, rfl, .ty _, .base (.int _), kit_ty kit_ii, ?_⟩)
  | (refine ⟨_, _, _, _, _, rfl, .ty _, .base (.bl _), kit_ty kit_bt, ?_⟩)
  | (refine ⟨_, _, _, _, _, rfl, .ty _, .base (.bl _), kit_ty kit_bb, ?_⟩)
  | (refine ⟨_, _, _, _, _, rfl, .ty _, .base (.bl _), kit_ty kit_bi, ?_⟩)))
local macro_rules | `(tactic| walk_at "ev") => `(tactic| (first
  | exact ev_var rfl
  | exact ev_int
  | exact ev_str
  | exact ev_bl
  | exact ev_non
  | (refine ev_add ?_ ?_ <;> walk_at "ev")
  | (refine ev_sub ?_ ?_ <;> walk_at "ev")
  | (refine ev_mul ?_ ?_ ?_ <;> (try walk_at "ev"))
  | (refine ev_neg ?_ <;> walk_at "ev")
  | (refine ev_num ?_ <;> walk_at "ev")
  | (refine ev_den ?_ <;> walk_at "ev")
  | (refine ev_cmp ?_ ?_ <;> walk_at "ev")
  | (refine ev_eqI ?_ ?_ <;> walk_at "ev")
  | (refine ev_eqS ?_ ?_ <;> walk_at "ev")
  | (refine ev_neI ?_ ?_ <;> walk_at "ev")
  | (refine ev_neS ?_ ?_ <;> walk_at "ev")
  | (refine ev_inS ?_ ?_ <;> walk_at "ev")
  | (refine ev_niS ?_ ?_ <;> walk_at "ev")
  | (refine ev_len ?_ <;> walk_at "ev")
  | (refine ev_list ?_ <;> walk_at "ev")
  | (refine ev_listRev ?_ <;> walk_at "ev")
  | (refine ev_int1 ?_ <;> walk_at "ev")))
local macro_rules | `(tactic| walk_at "ea") => `(tactic| (first
  | exact ea_nil
  | (refine ea_cons ?_ ?_ <;> (first | walk_at "ev" | walk_at "ea" | skip))))
local macro_rules | `(tactic| walk_at "sb") => `(tactic| (first | exact True.intro | (refine And.intro rfl ?_; walk_at "sb")))
section
variable {P : Program} {w : World} {K : PySem.W.Frag} {mg : Str → Option Value} {base : Heap}
theorem names_ok {bs : List Bd} (h : FamOk bs) : ∀ z ∈ bs.map Bd.name, PyData.strOk z = true := by
  rw [h.nm]
  intro z m
  obtain ⟨k, mk, rfl⟩ := List.mem_map.mp m
  have hk : k < 6 := Nat.lt_of_lt_of_le (List.mem_range.mp mk) h.l
  show (#[97 + k] : Array Nat).all (· < 0x110000) = true
  simp
  omega
theorem ev_neB {W : Wd} {ta tb : TE} {i j : Bool} (ha : Ev W ta tBl i) (hb : Ev W tb tBl j) : Ev W (tOp rNe ta tb) tBl (!decide (i = j)) := fun σ H o Q q =>
  ha σ H o _ fun v H1 g1 r1 => hb σ H1 g1.ok _ fun v2 H2 g2 r2 => by
    obtain rfl : v = .bl i := r1
    obtain rfl : v2 = .bl j := r2
    refine ⟨rfl, q _ H2 (g1.trans g2) ?_⟩
    show V.bl _ = V.bl _
    congr 1
    cases i <;> cases j <;> rfl
theorem ev_isN {α : Type} {t : Ty α} {W : Wd} {ta : TE} {x : Option α} (h : Ev W ta (tOpt t) x) : Ev W (tOp (fun x y H Q => y = .non ∧ Q (.bl (decide (x = .non))) H) ta (tC .non)) tBl x.isNone := fun σ H o Q q =>
  h σ H o _ fun v H1 g1 r1 => ⟨rfl, by
    have : decide (v = .non) = x.isNone := by
      cases x with
      | none => rw [show v = .non from r1]; rfl
      | some y => exact decide_eq_false r1.2
    rw [this]
    exact q _ H1 g1 rfl⟩
theorem ev_notN {α : Type} {t : Ty α} {W : Wd} {ta : TE} {x : Option α} (h : Ev W ta (tOpt t) x) : Ev W (tOp (fun x y H Q => y = .non ∧ Q (.bl (!decide (x = .non))) H) ta (tC .non)) tBl (!x.isNone) := fun σ H o Q q =>
  h σ H o _ fun v H1 g1 r1 => ⟨rfl, by
    have : decide (v = .non) = x.isNone := by
      cases x with
      | none => rw [show v = .non from r1]; rfl
      | some y => exact decide_eq_false r1.2
    rw [this]
    exact q _ H1 g1 rfl⟩
abbrev sLaw : Stmt := topS 39
theorem scLaw : FnScope ["script", "deck", "bonds", "names", "name", "own", "exempt", "everyone", "told", "due", "bond"] ["script"] (defScope sLaw) := ⟨rfl, rfl, rfl, by decide +kernel, rfl, by decide +kernel, by decide +kernel⟩
theorem ok_law {f CB : Addr} {fd : FuncData} {k : Nat} (F : Fun K "law" "law" sLaw f fd) (BC : BondC K CB) (c_law_deck : Cal P w K mg base k "_law_deck" ["script"] (spDeckN K)) (c_law_draw : Cal P w K mg base k "_law_draw" ["deck", "most"] (spDrawA K)) (c_law_family : Cal P w K mg base k "_law_family" ["deck"] (spLFam K CB))
    (c_law_defaults : Cal P w K mg base k "_law_defaults" ["bonds", "own", "exempt"] (spLDef K CB)) (c_cause_row : Cal P w K mg base k "cause_row" ["bonds", "own", "exempt", "name"] (spCause K CB)) (c_law_shortest : Cal P w K mg base k "_law_shortest" ["bonds", "own", "exempt", "name"] (spShort K CB)) (c_law_same_list : Cal P w K mg base k "_law_same_list" ["actual", "due"] (spSamL K)) (z_list : mg "list" = none) (z_len : mg "len" = none) : FnOk P w K mg base CX0 (k + 1) f fd ["script"] (spLawT K) := by
  refine ok_P F scLaw (fun _ => rfl) fun cdv A outer s H0 S ns Q E hr hp out => ⟨_, (pss_cons (ps_set (i := 1) scLaw.nd rfl (Or.inr rfl) (pe_cal c_law_deck hr (by rfl) (pa_cons (pv 0) pa_nil)))
      (pss_cons (ps_set (i := 2) scLaw.nd rfl (Or.inl rfl) (pe_cal c_law_family hr (by rfl) (pa_cons (pv 1) pa_nil)))
      (pss_cons (ps_setLc (i := 3) (own := [("bond", 10)]) (g := gName 10) (tt := tYes) rfl scLaw.nd rfl rfl (sw_true rfl rfl rfl (by decide +kernel)) (pi_list (pv 2)) (blkOk_by (own := [("bond", 10)]) (N := ["script", "deck", "bonds", "names", "name", "own", "exempt", "everyone", "told", "due", "bond"]) (sc := defScope sLaw) (by decide +kernel)) (fun _ _ _ _ _ => (pg_name (i := 10) scLaw.nd rfl (Or.inl rfl))) (fun _ _ _ _ _ => pts_nil) (fun _ _ _ _ _ => (pe_fldK (K := K) rfl (pv 10) rfl)))
      (pss_cons (ps_set (i := 5) scLaw.nd rfl (Or.inr rfl) (pe_lc (own := [("name", 4)]) (g := gName 4)  rfl scLaw.nd (pi_list (pv 3)) (blkOk_by (own := [("name", 4)]) (N := ["script", "deck", "bonds", "names", "name", "own", "exempt", "everyone", "told", "due", "bond"]) (sc := defScope sLaw) (by decide +kernel)) (fun _ _ _ _ _ => (pg_name (i := 4) scLaw.nd rfl (Or.inl rfl))) (fun _ _ _ _ _ => (pts_one (pt_cmpR op_eq (pe_cal c_law_draw hr (by rfl) (pa_cons (pv 1) (pa_cons pe_int pa_nil))) pe_int (nomark _)))) (fun _ _ _ _ _ => (pv 4))))
      (pss_cons (ps_setLc (i := 6) (own := [("name", 4)]) (g := gName 4)  rfl scLaw.nd rfl rfl (sw_true rfl rfl rfl (by decide +kernel)) (pi_list (pv 3)) (blkOk_by (own := [("name", 4)]) (N := ["script", "deck", "bonds", "names", "name", "own", "exempt", "everyone", "told", "due", "bond"]) (sc := defScope sLaw) (by decide +kernel)) (fun _ _ _ _ _ => (pg_name (i := 4) scLaw.nd rfl (Or.inl rfl))) (fun _ _ _ _ _ => (pts_one (PW.pt (pw_and (pt_cmpR (op_niK (K := K) rfl) (pv 4) (pv 5) (by rfl)) (pw_and1 (pt_cmpR op_eq (pe_cal c_law_draw hr (by rfl) (pa_cons (pv 1) (pa_cons pe_int pa_nil))) pe_int (nomark _))))))) (fun _ _ _ _ _ => (pv 4)))
      (pss_cons (ps_set (i := 7) scLaw.nd rfl (Or.inl rfl) (pe_cal c_law_defaults hr (by rfl) (pa_cons (pv 2) (pa_cons (pv 5) (pa_cons (pv 6) pa_nil)))))
      (pss_cons (ps_for PassesOwn.never rfl (pi_list (pv 3)) (pg_name (i := 4) scLaw.nd rfl (Or.inl rfl)) (pss_cons (ps_set (i := 8) scLaw.nd rfl (Or.inl rfl) (pe_cal c_cause_row hr (by rfl) (pa_cons (pe_callTy call_list_of (by rfl) z_list (by decide +kernel) (pa_cons (pv 2) pa_nil)) (pa_cons (pe_callTy call_list_of (by rfl) z_list (by decide +kernel) (pa_cons (pv 5) pa_nil)) (pa_cons (pe_callTy call_list_of (by rfl) z_list (by decide +kernel) (pa_cons (pv 6) pa_nil)) (pa_cons (pv 4) pa_nil))))))
      (pss_cons (ps_set (i := 9) scLaw.nd rfl (Or.inl rfl) (pe_cal c_law_shortest hr (by rfl) (pa_cons (pv 2) (pa_cons (pv 5) (pa_cons (pv 6) (pa_cons (pv 4) pa_nil))))))
      (pss_cons (ps_if (pt_cmpR op_ne (pe_cmpR op_isN (pv 9) pe_non (nomark _)) (pe_cmpR op_notIn_seq (pv 4) (pv 7) (by rfl)) (nomark _)) (pss_one (ps_ret pe_bl)) pss_nil)
      (pss_one (ps_if (pt_cmpR op_isN (pv 9) pe_non (nomark _)) (pss_one (ps_if (pt_cmpR op_notN (pv 8) pe_non (nomark _)) (pss_one (ps_ret pe_bl)) pss_nil)) (pss_one (ps_if (pt_not (pt_val (pe_cal c_law_same_list hr (by rfl) (pa_cons (pv 8) (pa_cons (pv 9) pa_nil))))) (pss_one (ps_ret pe_bl)) pss_nil))))))))
      (pss_one (ps_ret pe_bl))))))))), ?_⟩
  refine go_deck rfl fun d l => ?_
  refine go_setx (evx_call (z := (d, l, ns)) (ea_cons (ev_var rfl) ea_nil) trivial) fun bs hf => ?_
  have hf : FamOk bs := hf
  have nd := hf.nd
  have l6 : bs.length ≤ 6 := hf.l
  have sz : ∀ n, n ≤ 10000 → n < sizeLine := fun n h => by rw [sizeLine_eq]; omega
  refine go_set (x := bs.map Bd.name) (ev_lcm (K := K) (iv_list (ev_var rfl)) tgt_name (by simp) ?_ (fun _ _ _ x _ xm => (ev_fld 0 (ev_var rfl) BC.cl BC.n0))) ?_
  · exact sz _ (by omega)
  have ln : (bs.map Bd.name).length ≤ 6 := by rw [List.length_map]; exact l6
  refine go_setx (evx_lc (K := K) (iv_list (ev_var rfl)) tgt_name (by simp) ?_ (fun _ _ _ x _ xm => (etx_eqI (evx_draw (K := K) rfl (List.mem_cons_of_mem _ (List.mem_cons_self ..)) ev_int (by decide) (lt8 (by decide))) ev_int)) (fun _ _ _ x _ xm px => (Ev.xe (ev_var rfl)))) fun ow how => ?_
  · exact sz _ (by omega)
  have sow : ow.Sublist (bs.map Bd.name) := how.sub
  refine go_setx (evx_lc (K := K) (iv_list (ev_var rfl)) tgt_name (by simp) ?_ (fun _ _ _ x _ xm => (etx_and (Et.toX (et_of (ev_niS (ev_var rfl) (ev_var rfl))) rfl) (etx_eqI (evx_draw (K := K) rfl (List.mem_cons_of_mem _ (List.mem_cons_self ..)) ev_int (by decide) (lt8 (by decide))) ev_int))) (fun _ _ _ x _ xm px => (Ev.xe (ev_var rfl)))) fun ex hex => ?_
  · exact sz _ (by omega)
  have sex : ex.Sublist (bs.map Bd.name) := hex.sub
  have low : ow.length ≤ 6 := Nat.le_trans sow.length_le ln
  have lex : ex.length ≤ 6 := Nat.le_trans sex.length_le ln
  refine go_setx (evx_call (z := DfArgs.mk _ _ _) (ea_cons (ev_var rfl) (ea_cons (ev_var rfl) (ea_cons (ev_var rfl) ea_nil))) ?_) fun ev hev => ?_
  · exact ⟨hf.ok, l6, nd, by show ow.length ≤ 100; omega⟩
  obtain ⟨ks, L, rfl⟩ := hev
  have L : Least bs ow ex ks := L
  refine go_seq (go_for (iv_list (ev_var rfl)) tgt_name (fun k (_ : Unit) => ([cell d (cDk K d l ns)], [none, some (tRf.is d), some ((tLs K (tBd K CB)).is bs), some ((tLs K tSt).is (bs.map Bd.name)), none, some ((tLs K tSt).is ow), some ((tLs K tSt).is ex), some ((tLs K tSt).is ((inN ks bs).map Bd.name)), none, none, none])) (fun _ _ => True) () trivial (fun σ H o => o.sb (by walk_at "sb")) (fun k _ nm f hx _ => ?_) (fun _ _ σ H o => ?_))
  · have mnm : nm ∈ bs.map Bd.name := List.mem_of_getElem? hx
    have cok : CrOk ⟨⟨bs, ow, ex⟩, nm⟩ := ⟨⟨hf.ok, by show bs.length ≤ 20; omega, by show ow.length ≤ 100; omega, by show ex.length ≤ 100; omega, fun z m => sow.subset m, fun z m => sex.subset m⟩, l6, nd, mnm⟩
    refine go_setx (evx_call (z := CrArgs.mk (DfArgs.mk _ _ _) _) (ea_cons (ev_list (ev_var rfl)) (ea_cons (ev_list (ev_var rfl)) (ea_cons (ev_list (ev_var rfl)) (ea_cons (ev_var rfl) ea_nil)))) ?_) fun told ht => ?_
    · exact cok
    refine go_setx (evx_call (z := CrArgs.mk (DfArgs.mk _ _ _) _) (ea_cons (ev_var rfl) (ea_cons (ev_var rfl) (ea_cons (ev_var rfl) (ea_cons (ev_var rfl) ea_nil)))) ?_) fun due hd => ?_
    · exact ⟨hf.ok, l6, nd, mnm⟩
    obtain ⟨ks', L', hc⟩ := ht
    have hkk : nm ∈ ks' ↔ nm ∈ ks := Least.mem_iff (List.Perm.refl bs) (fun z => Iff.rfl) L' L nm
    obtain ⟨e1, e2⟩ := short_cause hf.ok nd L' hd hc
    subst e1
    have e3 : due = none ↔ nm ∉ (inN ks bs).map Bd.name := by
      rw [e2]
      show nm ∉ ks' ↔ _
      rw [hkk]
      constructor
      · intro h m
        obtain ⟨b, mb, rfl⟩ := List.mem_map.mp m
        exact h (of_decide_eq_true (List.mem_filter.mp mb).2)
      · intro h m
        obtain ⟨b, mb, rfl⟩ := List.mem_map.mp mnm
        exact h (List.mem_map_of_mem (List.mem_filter.mpr ⟨mb, decide_eq_true m⟩))
    refine go_if (et_of (ev_neB (ev_isN (ev_var rfl)) (ev_niS (ev_var rfl) (ev_var rfl)))) (fun h => ?_) (fun _ => ?_)
    · exfalso
      have h : (!decide (due.isNone = !decide (nm ∈ (inN ks bs).map Bd.name))) = true := h
      cases due with
      | none =>
        have := e3.mp rfl
        rw [decide_eq_false this] at h
        cases h
      | some r =>
        have : nm ∈ (inN ks bs).map Bd.name := Decidable.byContradiction fun q => by cases e3.mpr q
        rw [decide_eq_true this] at h
        cases h
    · refine go_if (et_isN (ev_var rfl)) (fun h => ?_) (fun h => ?_)
      · refine go_if (et_of (ev_notN (ev_var rfl))) (fun h2 => ?_) (fun h2 => go_next fun σ H o => ⟨(), trivial, o.sb (by walk_at "sb")⟩)
        rw [h] at h2
        cases h2
      · cases due with
        | none => cases h
        | some r =>
          refine go_if (et_not (et_B (ev_call (z := (_, _)) (ea_cons (ev_some (ev_var rfl)) (ea_cons (ev_some (ev_var rfl)) ea_nil)) ?_))) (fun h2 => ?_) (fun h2 => go_next fun σ H o => ⟨(), trivial, o.sb (by walk_at "sb")⟩)
          · show r.length ≤ 100
            obtain ⟨b, mb, eb, os, po, so, h3⟩ := hd
            have los : os.length ≤ 6 := by
              rw [po.length_eq]
              unfold othersOf
              rw [List.length_map]
              exact Nat.le_trans (List.length_filter_le ..) l6
            rcases h3 with ⟨L', w, h4, _, h5, h6⟩ | ⟨_, h6⟩
            · have hw := (WLw_row (List.mem_of_find?_eq_some h5)).1
              have h6 : r = w ++ [nm] := Option.some.inj h6
              rw [h6, List.length_append, List.length_singleton, hw]
              omega
            · cases h6
          · have h2 : (!decide (r = r)) = true := h2
            rw [decide_eq_true rfl] at h2
            cases h2
  · dsimp only
    exact go_at o (go_end (y := true) ev_bl out)
end
end Cs
set_option maxHeartbeats 4000000
namespace Cs
open PySem PySem.Spec PyProof.Rows L2
local macro_rules | `(tactic| walk_at "rd") => `(tactic| (first
  | (refine ⟨_, rfl, ?_⟩)
  | (refine ⟨_, _, rfl, rfl, ?_⟩)
  | (refine .inl ⟨_, rfl, ?_⟩)
  | (refine .inr ⟨_, rfl, ?_⟩)
  | (refine ⟨_, _, _, _, rfl, rfl, SqL.of upd_same, rfl, ?_⟩)
  | (refine ⟨_, _, _, _, rfl, rfl, upd_same, rfl, ?_⟩)
  | (refine ⟨_, ?xs, _, ?v, rfl, rfl, ?h, ?x, ?_⟩; (case h => first | exact SqL.of (by assumption) | exact SqT.of (by assumption) | assumption); (case x => first | rfl | exact atI_nat (j := 0) rfl | exact atI_nat (j := 1) rfl))))
local macro_rules | `(tactic| walk_at "isi") => `(tactic| (first
  | (refine ⟨_, _, _, _, _, rfl, .ty _, .base (.int _), kit_ty kit_it, ?_⟩)
  | (refine ⟨_, _, _, _, _, rfl, .ty _, .base (.int _), kit_ty kit_ib, ?_⟩)
  | (refine ⟨_, _, _, _, _, rfl, .ty _, .base (.int _), kit_ty kit_ii, ?_⟩)
  | (refine ⟨_, _, _, _, _, rfl, .ty _, .base (.bl _), kit_ty kit_bt, ?_⟩)
  | (refine ⟨_, _, _, _, _, rfl, .ty _, .base (.bl _), kit_ty kit_bb, ?_⟩)
  | (refine ⟨_, _, _, _, _, rfl, .ty _, .base (.bl _), kit_ty kit_bi, ?_⟩)))
theorem bdDeck (kV doc pm : Value) (an : Option Addr) (cdv ct : Value) (us : List Value) (hl : us.length = (["script"] : List Str).length) : bindArgs (PySem.W.fnOf "_law_deck" "_law_deck" (defArgs sDeck) (defBody sDeck) (defScope sDeck) .none kV doc pm an cdv ct) ⟨us, []⟩ = pure ((["script"] : List Str).zip us) := match us, hl with | [_], _ => rfl
theorem bdDraw (kV doc pm : Value) (an : Option Addr) (cdv ct : Value) (us : List Value) (hl : us.length = (["deck", "most"] : List Str).length) : bindArgs (PySem.W.fnOf "_law_draw" "_law_draw" (defArgs sDraw) (defBody sDraw) (defScope sDraw) .none kV doc pm an cdv ct) ⟨us, []⟩ = pure ((["deck", "most"] : List Str).zip us) := match us, hl with | [_, _], _ => rfl
theorem bdGcd (kV doc pm : Value) (an : Option Addr) (cdv ct : Value) (us : List Value) (hl : us.length = (["a", "b"] : List Str).length) : bindArgs (PySem.W.fnOf "_law_gcd" "_law_gcd" (defArgs sGcd) (defBody sGcd) (defScope sGcd) .none kV doc pm an cdv ct) ⟨us, []⟩ = pure ((["a", "b"] : List Str).zip us) := match us, hl with | [_, _], _ => rfl
theorem bdRatio (kV doc pm : Value) (an : Option Addr) (cdv ct : Value) (us : List Value) (hl : us.length = (["p", "q"] : List Str).length) : bindArgs (PySem.W.fnOf "_law_ratio" "_law_ratio" (defArgs sRatio) (defBody sRatio) (defScope sRatio) .none kV doc pm an cdv ct) ⟨us, []⟩ = pure ((["p", "q"] : List Str).zip us) := match us, hl with | [_, _], _ => rfl
theorem bdPlus (kV doc pm : Value) (an : Option Addr) (cdv ct : Value) (us : List Value) (hl : us.length = (["a", "b"] : List Str).length) : bindArgs (PySem.W.fnOf "plus" "plus" (defArgs sPlus) (defBody sPlus) (defScope sPlus) .none kV doc pm an cdv ct) ⟨us, []⟩ = pure ((["a", "b"] : List Str).zip us) := match us, hl with | [_, _], _ => rfl
theorem bdTimes (kV doc pm : Value) (an : Option Addr) (cdv ct : Value) (us : List Value) (hl : us.length = (["a", "b"] : List Str).length) : bindArgs (PySem.W.fnOf "times" "times" (defArgs sTimes) (defBody sTimes) (defScope sTimes) .none kV doc pm an cdv ct) ⟨us, []⟩ = pure ((["a", "b"] : List Str).zip us) := match us, hl with | [_, _], _ => rfl
theorem bdSign (kV doc pm : Value) (an : Option Addr) (cdv ct : Value) (us : List Value) (hl : us.length = (["a"] : List Str).length) : bindArgs (PySem.W.fnOf "sign" "sign" (defArgs sSign) (defBody sSign) (defScope sSign) .none kV doc pm an cdv ct) ⟨us, []⟩ = pure ((["a"] : List Str).zip us) := match us, hl with | [_], _ => rfl
theorem bdOrder (kV doc pm : Value) (an : Option Addr) (cdv ct : Value) (us : List Value) (hl : us.length = (["a", "b"] : List Str).length) : bindArgs (PySem.W.fnOf "order" "order" (defArgs sOrder) (defBody sOrder) (defScope sOrder) .none kV doc pm an cdv ct) ⟨us, []⟩ = pure ((["a", "b"] : List Str).zip us) := match us, hl with | [_, _], _ => rfl
theorem bdTotal (kV doc pm : Value) (an : Option Addr) (cdv ct : Value) (us : List Value) (hl : us.length = (["values"] : List Str).length) : bindArgs (PySem.W.fnOf "total" "total" (defArgs sTotal) (defBody sTotal) (defScope sTotal) .none kV doc pm an cdv ct) ⟨us, []⟩ = pure ((["values"] : List Str).zip us) := match us, hl with | [_], _ => rfl
theorem bdSize (kV doc pm : Value) (an : Option Addr) (cdv ct : Value) (us : List Value) (hl : us.length = (["bond"] : List Str).length) : bindArgs (PySem.W.fnOf "size" "size" (defArgs sSize) (defBody sSize) (defScope sSize) .none kV doc pm an cdv ct) ⟨us, []⟩ = pure ((["bond"] : List Str).zip us) := match us, hl with | [_], _ => rfl
theorem bdIsBound (kV doc pm : Value) (an : Option Addr) (cdv ct : Value) (us : List Value) (hl : us.length = (["bond", "others"] : List Str).length) : bindArgs (PySem.W.fnOf "_is_bound" "_is_bound" (defArgs sIsBound) (defBody sIsBound) (defScope sIsBound) .none kV doc pm an cdv ct) ⟨us, []⟩ = pure ((["bond", "others"] : List Str).zip us) := match us, hl with | [_, _], _ => rfl
theorem bdCkN (kV doc pm : Value) (an : Option Addr) (cdv ct : Value) (us : List Value) (hl : us.length = (["bonds", "names"] : List Str).length) : bindArgs (PySem.W.fnOf "_check_names" "_check_names" (defArgs sCkN) (defBody sCkN) (defScope sCkN) .none kV doc pm an cdv ct) ⟨us, []⟩ = pure ((["bonds", "names"] : List Str).zip us) := match us, hl with | [_, _], _ => rfl
theorem bdLonger (kV doc pm : Value) (an : Option Addr) (cdv ct : Value) (us : List Value) (hl : us.length = (["mates", "own", "rows"] : List Str).length) : bindArgs (PySem.W.fnOf "_longer_rows" "_longer_rows" (defArgs sLonger) (defBody sLonger) (defScope sLonger) .none kV doc pm an cdv ct) ⟨us, []⟩ = pure ((["mates", "own", "rows"] : List Str).zip us) := match us, hl with | [_, _, _], _ => rfl
theorem bdNameOf (kV doc pm : Value) (an : Option Addr) (cdv ct : Value) (us : List Value) (hl : us.length = (["bond"] : List Str).length) : bindArgs (PySem.W.fnOf "_name_of" "_name_of" (defArgs sNameOf) (defBody sNameOf) (defScope sNameOf) .none kV doc pm an cdv ct) ⟨us, []⟩ = pure ((["bond"] : List Str).zip us) := match us, hl with | [_], _ => rfl
theorem bdCause (kV doc pm : Value) (an : Option Addr) (cdv ct : Value) (us : List Value) (hl : us.length = (["bonds", "own", "exempt", "name"] : List Str).length) : bindArgs (PySem.W.fnOf "cause_row" "cause_row" (defArgs sCause) (defBody sCause) (defScope sCause) .none kV doc pm an cdv ct) ⟨us, []⟩ = pure ((["bonds", "own", "exempt", "name"] : List Str).zip us) := match us, hl with | [_, _, _, _], _ => rfl
theorem bdLAdd (kV doc pm : Value) (an : Option Addr) (cdv ct : Value) (us : List Value) (hl : us.length = (["a", "b"] : List Str).length) : bindArgs (PySem.W.fnOf "_law_add" "_law_add" (defArgs sLAdd) (defBody sLAdd) (defScope sLAdd) .none kV doc pm an cdv ct) ⟨us, []⟩ = pure ((["a", "b"] : List Str).zip us) := match us, hl with | [_, _], _ => rfl
theorem bdLOrder (kV doc pm : Value) (an : Option Addr) (cdv ct : Value) (us : List Value) (hl : us.length = (["a", "b"] : List Str).length) : bindArgs (PySem.W.fnOf "_law_order" "_law_order" (defArgs sLOrder) (defBody sLOrder) (defScope sLOrder) .none kV doc pm an cdv ct) ⟨us, []⟩ = pure ((["a", "b"] : List Str).zip us) := match us, hl with | [_, _], _ => rfl
theorem bdLTotal (kV doc pm : Value) (an : Option Addr) (cdv ct : Value) (us : List Value) (hl : us.length = (["values"] : List Str).length) : bindArgs (PySem.W.fnOf "_law_total" "_law_total" (defArgs sLTotal) (defBody sLTotal) (defScope sLTotal) .none kV doc pm an cdv ct) ⟨us, []⟩ = pure ((["values"] : List Str).zip us) := match us, hl with | [_], _ => rfl
theorem bdLSize (kV doc pm : Value) (an : Option Addr) (cdv ct : Value) (us : List Value) (hl : us.length = (["bond"] : List Str).length) : bindArgs (PySem.W.fnOf "_law_size" "_law_size" (defArgs sLSize) (defBody sLSize) (defScope sLSize) .none kV doc pm an cdv ct) ⟨us, []⟩ = pure ((["bond"] : List Str).zip us) := match us, hl with | [_], _ => rfl
theorem bdLBound (kV doc pm : Value) (an : Option Addr) (cdv ct : Value) (us : List Value) (hl : us.length = (["bonds", "name", "names"] : List Str).length) : bindArgs (PySem.W.fnOf "_law_bound" "_law_bound" (defArgs sLBound) (defBody sLBound) (defScope sLBound) .none kV doc pm an cdv ct) ⟨us, []⟩ = pure ((["bonds", "name", "names"] : List Str).zip us) := match us, hl with | [_, _, _], _ => rfl
theorem bdLIsRow (kV doc pm : Value) (an : Option Addr) (cdv ct : Value) (us : List Value) (hl : us.length = (["bonds", "own", "exempt", "row"] : List Str).length) : bindArgs (PySem.W.fnOf "_law_is_row" "_law_is_row" (defArgs sLIsRow) (defBody sLIsRow) (defScope sLIsRow) .none kV doc pm an cdv ct) ⟨us, []⟩ = pure ((["bonds", "own", "exempt", "row"] : List Str).zip us) := match us, hl with | [_, _, _, _], _ => rfl
theorem bdLShort (kV doc pm : Value) (an : Option Addr) (cdv ct : Value) (us : List Value) (hl : us.length = (["bonds", "own", "exempt", "name"] : List Str).length) : bindArgs (PySem.W.fnOf "_law_shortest" "_law_shortest" (defArgs sLShort) (defBody sLShort) (defScope sLShort) .none kV doc pm an cdv ct) ⟨us, []⟩ = pure ((["bonds", "own", "exempt", "name"] : List Str).zip us) := match us, hl with | [_, _, _, _], _ => rfl
theorem bdLDef (kV doc pm : Value) (an : Option Addr) (cdv ct : Value) (us : List Value) (hl : us.length = (["bonds", "own", "exempt"] : List Str).length) : bindArgs (PySem.W.fnOf "_law_defaults" "_law_defaults" (defArgs sLDef) (defBody sLDef) (defScope sLDef) .none kV doc pm an cdv ct) ⟨us, []⟩ = pure ((["bonds", "own", "exempt"] : List Str).zip us) := match us, hl with | [_, _, _], _ => rfl
theorem bdSame (kV doc pm : Value) (an : Option Addr) (cdv ct : Value) (us : List Value) (hl : us.length = (["actual", "due"] : List Str).length) : bindArgs (PySem.W.fnOf "_law_same" "_law_same" (defArgs sSame) (defBody sSame) (defScope sSame) .none kV doc pm an cdv ct) ⟨us, []⟩ = pure ((["actual", "due"] : List Str).zip us) := match us, hl with | [_, _], _ => rfl
theorem bdSameL (kV doc pm : Value) (an : Option Addr) (cdv ct : Value) (us : List Value) (hl : us.length = (["actual", "due"] : List Str).length) : bindArgs (PySem.W.fnOf "_law_same_list" "_law_same_list" (defArgs sSameL) (defBody sSameL) (defScope sSameL) .none kV doc pm an cdv ct) ⟨us, []⟩ = pure ((["actual", "due"] : List Str).zip us) := match us, hl with | [_, _], _ => rfl
theorem bdLFam (kV doc pm : Value) (an : Option Addr) (cdv ct : Value) (us : List Value) (hl : us.length = (["deck"] : List Str).length) : bindArgs (PySem.W.fnOf "_law_family" "_law_family" (defArgs sLFam) (defBody sLFam) (defScope sLFam) .none kV doc pm an cdv ct) ⟨us, []⟩ = pure ((["deck"] : List Str).zip us) := match us, hl with | [_], _ => rfl
theorem bdFraction0 (T : Addr) (kV doc pm : Value) (an : Option Addr) (cdv ct : Value) (us its : List Value) (hl : us.length = 2) (hi : its.length = 1) :
      ∃ k, bindArgs (PySem.W.fnOf "fraction" "fraction" (defArgs sFraction) (defBody sFraction) (defScope sFraction) (.ref T) kV doc pm an cdv ct) ⟨us, []⟩ = seqItems? (.ref T) >>= k ∧ k (some its.toArray) = pure ((["p", "q"] : List Str).zip (us ++ its.drop 1)) := match us, its, hl, hi with | [_, _], [_], _, _ => ⟨_, rfl, rfl⟩
theorem bdFraction1 (T : Addr) (kV doc pm : Value) (an : Option Addr) (cdv ct : Value) (us its : List Value) (hl : us.length = 1) (hi : its.length = 1) :
      ∃ k, bindArgs (PySem.W.fnOf "fraction" "fraction" (defArgs sFraction) (defBody sFraction) (defScope sFraction) (.ref T) kV doc pm an cdv ct) ⟨us, []⟩ = seqItems? (.ref T) >>= k ∧ k (some its.toArray) = pure ((["p", "q"] : List Str).zip (us ++ its.drop 0)) := match us, its, hl, hi with | [_], [_], _, _ => ⟨_, rfl, rfl⟩
theorem bdDfl0 (T : Addr) (kV doc pm : Value) (an : Option Addr) (cdv ct : Value) (us its : List Value) (hl : us.length = 3) (hi : its.length = 1) :
      ∃ k, bindArgs (PySem.W.fnOf "defaults" "defaults" (defArgs sDfl) (defBody sDfl) (defScope sDfl) (.ref T) kV doc pm an cdv ct) ⟨us, []⟩ = seqItems? (.ref T) >>= k ∧ k (some its.toArray) = pure ((["bonds", "own", "exempt"] : List Str).zip (us ++ its.drop 1)) := match us, its, hl, hi with | [_, _, _], [_], _, _ => ⟨_, rfl, rfl⟩
theorem bdDfl1 (T : Addr) (kV doc pm : Value) (an : Option Addr) (cdv ct : Value) (us its : List Value) (hl : us.length = 2) (hi : its.length = 1) :
      ∃ k, bindArgs (PySem.W.fnOf "defaults" "defaults" (defArgs sDfl) (defBody sDfl) (defScope sDfl) (.ref T) kV doc pm an cdv ct) ⟨us, []⟩ = seqItems? (.ref T) >>= k ∧ k (some its.toArray) = pure ((["bonds", "own", "exempt"] : List Str).zip (us ++ its.drop 0)) := match us, its, hl, hi with | [_, _], [_], _, _ => ⟨_, rfl, rfl⟩
theorem bdBInit (kV doc pm : Value) (an : Option Addr) (cdv ct : Value) (us ws : List Value) (h1 : us.length = 3) (h2 : ws.length = bdKs.length) : bindArgs (PySem.W.fnOf "__init__" "Bond.__init__" (defArgs sBInit) (defBody sBInit) (defScope sBInit) .none kV doc pm an cdv ct) ⟨us, bdKs.zip ws⟩ = pure (bdPs.zip (us ++ ws)) := bind_kw (N := ["self", "name", "issuer"]) (Kn := bdKs) rfl rfl rfl rfl rfl rfl (by decide +kernel) h1 h2
theorem all_mk {l : PySem.W.OpenLaw} {w : World} {K : PySem.W.Frag} {h : Heap} {mg : Str → Option Value} {fa : Addr} {zZ zT : Addr} {dZ dT : Option Addr} {tk0 tk1 : Tok} {nZ nT : Nat} {slZ slT : Array (Option Value)} {CB fI : Addr} {odI anI : Option Addr} {slI : Array (Option Value)} {ocI kVI dcI pmI cdI ctI : Value} (X : K.In h) (G : h.Ns mainGlobals mg) (hfa : mg "law" = some (.ref fa))
    (gDeck : FunG K mg "_law_deck" sDeck ["script"])
    (gDraw : FunG K mg "_law_draw" sDraw ["deck", "most"])
    (gGcd : FunG K mg "_law_gcd" sGcd ["a", "b"])
    (gRatio : FunG K mg "_law_ratio" sRatio ["p", "q"])
    (gPlus : FunG K mg "plus" sPlus ["a", "b"])
    (gTimes : FunG K mg "times" sTimes ["a", "b"])
    (gSign : FunG K mg "sign" sSign ["a"])
    (gOrder : FunG K mg "order" sOrder ["a", "b"])
    (gTotal : FunG K mg "total" sTotal ["values"])
    (gSize : FunG K mg "size" sSize ["bond"])
    (gIsBound : FunG K mg "_is_bound" sIsBound ["bond", "others"])
    (gCkN : FunG K mg "_check_names" sCkN ["bonds", "names"])
    (gLonger : FunG K mg "_longer_rows" sLonger ["mates", "own", "rows"])
    (gNameOf : FunG K mg "_name_of" sNameOf ["bond"])
    (gCause : FunG K mg "cause_row" sCause ["bonds", "own", "exempt", "name"])
    (gLAdd : FunG K mg "_law_add" sLAdd ["a", "b"])
    (gLOrder : FunG K mg "_law_order" sLOrder ["a", "b"])
    (gLTotal : FunG K mg "_law_total" sLTotal ["values"])
    (gLSize : FunG K mg "_law_size" sLSize ["bond"])
    (gLBound : FunG K mg "_law_bound" sLBound ["bonds", "name", "names"])
    (gLIsRow : FunG K mg "_law_is_row" sLIsRow ["bonds", "own", "exempt", "row"])
    (gLShort : FunG K mg "_law_shortest" sLShort ["bonds", "own", "exempt", "name"])
    (gLDef : FunG K mg "_law_defaults" sLDef ["bonds", "own", "exempt"])
    (gSame : FunG K mg "_law_same" sSame ["actual", "due"])
    (gSameL : FunG K mg "_law_same_list" sSameL ["actual", "due"])
    (gLFam : FunG K mg "_law_family" sLFam ["deck"])
    (gFraction : FunDG K mg "fraction" sFraction ["p", "q"] [.int 1])
    (gDfl : FunDG K mg "defaults" sDfl ["bonds", "own", "exempt"] [.ref zT])
    {f2 : Addr} {od2 an2 : Option Addr} {sl2 : Array (Option Value)} {oc2 kV2 dc2 pm2 cd2 ct2 : Value}
    (a2 : PySem.W.nsIn K mainGlobals "law" = some (some (.ref f2))) (l2 : K.lookup f2 = some ⟨oc2, od2, .func (PySem.W.fnOf "law" "law" (defArgs sLaw) (defBody sLaw) (defScope sLaw) .none kV2 dc2 pm2 an2 cd2 ct2), sl2⟩) (c2 : PySem.W.codeIn K cd2 "law" = true) (k2 : PySem.W.keepIn K (.ref f2) = true)
    (y_len : PySem.W.nsIn K mainGlobals "len" = some none)
    (y_int : PySem.W.nsIn K mainGlobals "int" = some none)
    (y_abs : PySem.W.nsIn K mainGlobals "abs" = some none)
    (y_range : PySem.W.nsIn K mainGlobals "range" = some none)
    (y_isinstance : PySem.W.nsIn K mainGlobals "isinstance" = some none)
    (y_list : PySem.W.nsIn K mainGlobals "list" = some none)
    (y_sorted : PySem.W.nsIn K mainGlobals "sorted" = some none)
    (y_tuple : PySem.W.nsIn K mainGlobals "tuple" = some none)
    (y_bool : PySem.W.nsIn K mainGlobals "bool" = some none)
    (y_str : PySem.W.nsIn K mainGlobals "str" = some none)
    (y_gcd : PySem.W.nsIn K mainGlobals "gcd" = some (some (.builtin "math.gcd")))
    (yZ : PySem.W.nsIn K mainGlobals "ZERO" = some (some (.ref zZ)))
    (lZ : K.lookup zZ = some ⟨.type "tuple", dZ, .seq #[.int 0 tk0, .int 1 tk1] nZ, slZ⟩)
    (lT : K.lookup zT = some ⟨.type "tuple", dT, .seq #[] nT, slT⟩)
    (aB : PySem.W.nsIn K mainGlobals "Bond" = some (some (.ref CB)))
    (iB : PySem.W.findIn K (.ref CB) "__init__" = some (some (.ref fI)))
    (jB : PySem.W.isFn K (.ref fI) = true)
    (lB : K.lookup fI = some ⟨ocI, odI, .func (PySem.W.fnOf "__init__" "Bond.__init__" (defArgs sBInit) (defBody sBInit) (defScope sBInit) .none kVI dcI pmI anI cdI ctI), slI⟩)
    (cB : PySem.W.codeIn K cdI "Bond.__init__" = true)
    (kB : PySem.W.keepIn K (.ref fI) = true)
    (pgB : PySem.W.plainGet K CB Str.empty = true)
    (hdB : PySem.W.hasDictIn K CB = true)
    (poB : PySem.W.plainOver K CB = true)
    (saB : PySem.W.findIn K (.ref CB) "__setattr__" = some (some (.builtin "object.__setattr__")))
    (mkB : PySem.W.makesIn K CB = true)
    (kcB : PySem.W.keepIn K (.ref CB) = true)
    (nB0 : PySem.W.findIn K (.ref CB) "name" = some none)
    (nB1 : PySem.W.findIn K (.ref CB) "issuer" = some none)
    (nB2 : PySem.W.findIn K (.ref CB) "units" = some none)
    (nB3 : PySem.W.findIn K (.ref CB) "face" = some none)
    (nB4 : PySem.W.findIn K (.ref CB) "cross" = some none)
    (nB5 : PySem.W.findIn K (.ref CB) "first_day" = some none)
    (nB6 : PySem.W.findIn K (.ref CB) "last_day" = some none)
    (nB7 : PySem.W.findIn K (.ref CB) "months" = some none)
    (nB8 : PySem.W.findIn K (.ref CB) "count" = some none)
    (nB9 : PySem.W.findIn K (.ref CB) "adjust" = some none)
    (nB10 : PySem.W.findIn K (.ref CB) "record" = some none)
    (nB11 : PySem.W.findIn K (.ref CB) "rank" = some none)
    (nB12 : PySem.W.findIn K (.ref CB) "lets" = some none)
    (nB13 : PySem.W.findIn K (.ref CB) "coupon" = some none)
    (nB14 : PySem.W.findIn K (.ref CB) "promises" = some none)
    (nB15 : PySem.W.findIn K (.ref CB) "calls" = some none) :
    ∃ fd : FuncData, (∀ (s : Shared) (v : Value), BindsTo s fd ⟨[v], []⟩ [("script", v)]) ∧ ∀ base : Heap, K.In base → base.Ns mainGlobals mg → FnOk l.prog w K mg base CX0 8 fa fd ["script"] (spLawT K) := by
  have e := hfa.symm.trans (PySem.W.mg_of X G a2)
  cases e
  have z_len := PySem.W.mg_none_of X G y_len
  have z_int := PySem.W.mg_none_of X G y_int
  have z_abs := PySem.W.mg_none_of X G y_abs
  have z_range := PySem.W.mg_none_of X G y_range
  have z_isinstance := PySem.W.mg_none_of X G y_isinstance
  have z_list := PySem.W.mg_none_of X G y_list
  have z_sorted := PySem.W.mg_none_of X G y_sorted
  have z_tuple := PySem.W.mg_none_of X G y_tuple
  have z_bool := PySem.W.mg_none_of X G y_bool
  have z_str := PySem.W.mg_none_of X G y_str
  refine ⟨PySem.W.fnOf "law" "law" (defArgs sLaw) (defBody sLaw) (defScope sLaw) .none kV2 dc2 pm2 an2 cd2 ct2, fun s v => .of_eq rfl, fun base _ _ => ?_⟩
  have kL : PySem.W.kitOne K (.type "list") (.type "list") = some true := kit_ty (show kitB "list" "list" = some true by decide +kernel)
  have BC : BondC K CB := ⟨⟨pgB, hdB, poB, saB⟩, nB0, nB1, nB2, nB3, nB4, nB5, nB6, nB7, nB8, nB9, nB10, nB11, nB12, nB13, nB14, nB15⟩
  have FB := fun_mk (st := sBInit) lB cB kB
  have MB : MkBd l.prog w K mg base 1 CB fI _ (fun us ws => us ++ ws) := ⟨⟨mkB, iB, jB, kcB⟩, ok_binit (k := 0) FB BC z_list, PySem.W.mg_of X G aB, ⟨fun s us ws _ h1 h2 => .of_eq (bdBInit kVI dcI pmI anI cdI ctI us ws h1 h2), fun a b => a.append b⟩⟩
  have hZ : ∀ H, SqT K H zZ [.int 0, .int 1] := fun H => .inr ⟨_, #[.int 0 tk0, .int 1 tk1], nZ, lZ, rfl, rfl, by show 2 ≤ sizeLine; decide, .cons ⟨tk0, rfl⟩ (.cons ⟨tk1, rfl⟩ .nil)⟩
  obtain ⟨cFraction, cFraction1⟩ := Cal.ofD (P := l.prog) (w := w) (base := base) (k := 1) (sp := spFrac) gFraction fun F => ok_fraction (k := 0) F (PySem.W.mg_of X G y_gcd)
  have cDeck : Cal l.prog w K mg base 1 "_law_deck" ["script"] (spDeckN K) := Cal.of gDeck fun F => ok_deck (k := 0) F z_list
  have cDraw : Cal l.prog w K mg base 1 "_law_draw" ["deck", "most"] (spDrawA K) := Cal.of gDraw fun F => ok_draw (k := 0) F z_len z_int
  have cGcd : Cal l.prog w K mg base 1 "_law_gcd" ["a", "b"] spGcd := Cal.of gGcd fun F => ok_gcd (k := 0) F z_range z_int
  have cRatio : Cal l.prog w K mg base 2 "_law_ratio" ["p", "q"] spRatio := Cal.of gRatio fun F => ok_ratio (k := 1) F cGcd z_abs
  have cPlus : Cal l.prog w K mg base 2 "plus" ["a", "b"] (spPlus K) := Cal.of gPlus fun F => ok_plus (k := 1) F cFraction
  have cTimes : Cal l.prog w K mg base 2 "times" ["a", "b"] (spTimes K) := Cal.of gTimes fun F => ok_times (k := 1) F cFraction
  have cSign : Cal l.prog w K mg base 1 "sign" ["a"] (spSign K) := Cal.of gSign fun F => ok_sign (k := 0) F
  have cOrder : Cal l.prog w K mg base 2 "order" ["a", "b"] (spOrder K) := Cal.of gOrder fun F => ok_order (k := 1) F cSign
  have cTotal : Cal l.prog w K mg base 3 "total" ["values"] (spTotal K) := Cal.of gTotal fun F => ok_total (k := 2) F cPlus (PySem.W.mg_of X G yZ) hZ
  have cSize : Cal l.prog w K mg base 3 "size" ["bond"] (spSize K CB) := Cal.of gSize fun F => ok_size (k := 2) F BC (cFraction1.mono (by decide)) cTimes
  have cIsBound : Cal l.prog w K mg base 4 "_is_bound" ["bond", "others"] (spBound K CB) := Cal.of gIsBound fun F => ok_is_bound (k := 3) F BC cSize cTotal (cOrder.mono (by decide))
  have cCkN : Cal l.prog w K mg base 1 "_check_names" ["bonds", "names"] (spCkN K CB) := Cal.of gCkN fun F => ok_ckn (k := 0) F BC
  obtain ⟨cDfl, cDfl1⟩ := Cal.ofD (P := l.prog) (w := w) (base := base) (k := 5) (sp := (spDefaults K CB)) gDfl fun F => ok_defaults (k := 4) F BC (cCkN.mono (by decide)) cIsBound
  have cLonger : Cal l.prog w K mg base 5 "_longer_rows" ["mates", "own", "rows"] (spLonger K CB) := Cal.of gLonger fun F => ok_longer (k := 4) F BC cIsBound z_list z_tuple z_sorted
  obtain ⟨Fn, fdn, FNm, eNm, bNm⟩ := gNameOf
  have cCause : Cal l.prog w K mg base 6 "cause_row" ["bonds", "own", "exempt", "name"] (spCause K CB) := Cal.of gCause fun F => ok_cause (k := 5) F FNm bNm eNm BC (cCkN.mono (by decide)) cDfl cLonger z_sorted
  have cLAdd : Cal l.prog w K mg base 3 "_law_add" ["a", "b"] (spLAdd K) := Cal.of gLAdd fun F => ok_ladd (k := 2) F cRatio
  have cLOrder : Cal l.prog w K mg base 1 "_law_order" ["a", "b"] (spLOrder K) := Cal.of gLOrder fun F => ok_lorder (k := 0) F z_int
  have cLTotal : Cal l.prog w K mg base 4 "_law_total" ["values"] (spTotal K) := Cal.of gLTotal fun F => ok_ltotal (k := 3) F cLAdd
  have cLSize : Cal l.prog w K mg base 3 "_law_size" ["bond"] (spSize K CB) := Cal.of gLSize fun F => ok_lsize (k := 2) F BC cRatio
  have cLBound : Cal l.prog w K mg base 5 "_law_bound" ["bonds", "name", "names"] (spLBound K CB) := Cal.of gLBound fun F => ok_lbound (k := 4) F BC (cLSize.mono (by decide)) cLTotal (cLOrder.mono (by decide))
  have cLBoundC : Cal l.prog w K mg base 5 "_law_bound" ["bonds", "name", "names"] (spLBoundC K CB) := Cal.of gLBound fun F => ok_lboundC (k := 4) F BC (cLSize.mono (by decide)) cLTotal (cLOrder.mono (by decide))
  have cLIsRow : Cal l.prog w K mg base 6 "_law_is_row" ["bonds", "own", "exempt", "row"] (spIsRow K CB) := Cal.of gLIsRow fun F => ok_isrow (k := 5) F BC cLBound z_len z_range
  have cLShort : Cal l.prog w K mg base 7 "_law_shortest" ["bonds", "own", "exempt", "name"] (spShort K CB) := Cal.of gLShort fun F => ok_short (k := 6) F BC cLIsRow z_len z_range z_sorted
  have cLDef : Cal l.prog w K mg base 6 "_law_defaults" ["bonds", "own", "exempt"] (spLDef K CB) := Cal.of gLDef fun F => ok_ldef (k := 5) F BC cLBoundC z_len z_range z_list
  have cSame : Cal l.prog w K mg base 1 "_law_same" ["actual", "due"] spSamS := Cal.of gSame fun F => ok_sameS (ok_sameR (k := 0) F z_isinstance z_int z_bool z_tuple z_str)
  have cSameL : Cal l.prog w K mg base 2 "_law_same_list" ["actual", "due"] (spSamL K) := Cal.of gSameL fun F => ok_samL (k := 1) F cSame z_isinstance z_list z_len z_range kL
  have cLFam : Cal l.prog w K mg base 3 "_law_family" ["deck"] (spLFam K CB) := Cal.of gLFam fun F => ok_lfam (k := 1) F MB (cDraw.mono (by decide)) cRatio z_range z_int
  exact ok_law (k := 7) (fun_mk (st := sLaw) l2 c2 k2) BC (cDeck.mono (by decide)) (cDraw.mono (by decide)) (cLFam.mono (by decide)) (cLDef.mono (by decide)) (cCause.mono (by decide)) cLShort (cSameL.mono (by decide)) z_list z_len
end Cs
open PySem PySem.W PyProof.Rows
set_option maxHeartbeats 0 in
theorem PySem.Challenge.cw_consol_k47_rows_of_causes_of_defaults_holds : PySem.Challenge.rw_consol_k47_rows_of_causes_of_defaults.Holds := by
  w_on; o_law; k_head; (case hw => w_witness2)
  k_fill
  refine L2.walk_of (l := PySem.Challenge.rw_consol_k47_rows_of_causes_of_defaults) (n := 63) (k := 8) (x := "script") (CX := fun _ => L2.CX0) (sp := fun w => Cs.spLawT _) rfl (by decide) rfl ⟨rfl, by decide, by decide⟩ (fun w h Y => PySem.W.kIn_of Y) ?F (fun _ _ a ns hl _ hS => Cs.spL_in hS fun _ => rfl) (fun _ _ _ _ _ h => h)
  case F =>
    intro w mg fa h KX G hmg
    refine' Cs.all_mk KX G hmg (Cs.FunG.mk Cs.bdDeck KX G ?a0 ?l0 ?c0 ?k0) (Cs.FunG.mk Cs.bdDraw KX G ?a1 ?l1 ?c1 ?k1) (Cs.FunG.mk Cs.bdGcd KX G ?a2 ?l2 ?c2 ?k2) (Cs.FunG.mk Cs.bdRatio KX G ?a3 ?l3 ?c3 ?k3) (Cs.FunG.mk Cs.bdPlus KX G ?a4 ?l4 ?c4 ?k4) (Cs.FunG.mk Cs.bdTimes KX G ?a5 ?l5 ?c5 ?k5) (Cs.FunG.mk Cs.bdSign KX G ?a6 ?l6 ?c6 ?k6) (Cs.FunG.mk Cs.bdOrder KX G ?a7 ?l7 ?c7 ?k7) (Cs.FunG.mk Cs.bdTotal KX G ?a8 ?l8 ?c8 ?k8) (Cs.FunG.mk Cs.bdSize KX G ?a9 ?l9 ?c9 ?k9) (Cs.FunG.mk Cs.bdIsBound KX G ?a10 ?l10 ?c10 ?k10) (Cs.FunG.mk Cs.bdCkN KX G ?a11 ?l11 ?c11 ?k11) (Cs.FunG.mk Cs.bdLonger KX G ?a12 ?l12 ?c12 ?k12) (Cs.FunG.mk Cs.bdNameOf KX G ?a13 ?l13 ?c13 ?k13) (Cs.FunG.mk Cs.bdCause KX G ?a14 ?l14 ?c14 ?k14) (Cs.FunG.mk Cs.bdLAdd KX G ?a15 ?l15 ?c15 ?k15) (Cs.FunG.mk Cs.bdLOrder KX G ?a16 ?l16 ?c16 ?k16) (Cs.FunG.mk Cs.bdLTotal KX G ?a17 ?l17 ?c17 ?k17) (Cs.FunG.mk Cs.bdLSize KX G ?a18 ?l18 ?c18 ?k18) (Cs.FunG.mk Cs.bdLBound KX G ?a19 ?l19 ?c19 ?k19) (Cs.FunG.mk Cs.bdLIsRow KX G ?a20 ?l20 ?c20 ?k20) (Cs.FunG.mk Cs.bdLShort KX G ?a21 ?l21 ?c21 ?k21) (Cs.FunG.mk Cs.bdLDef KX G ?a22 ?l22 ?c22 ?k22) (Cs.FunG.mk Cs.bdSame KX G ?a23 ?l23 ?c23 ?k23) (Cs.FunG.mk Cs.bdSameL KX G ?a24 ?l24 ?c24 ?k24) (Cs.FunG.mk Cs.bdLFam KX G ?a25 ?l25 ?c25 ?k25) (Cs.FunDG.mk 1 Cs.bdFraction0 Cs.bdFraction1 KX G ?aD0 ?lD0 ?cD0 ?kD0 ?tD0 (by simp) ?vD0 rfl) (Cs.FunDG.mk 2 Cs.bdDfl0 Cs.bdDfl1 KX G ?aD1 ?lD1 ?cD1 ?kD1 ?tD1 (by simp) ?vD1 rfl) ?aLw ?lLw ?cLw ?kLw ?y_len ?y_int ?y_abs ?y_range ?y_isinstance ?y_list ?y_sorted ?y_tuple ?y_bool ?y_str ?y_gcd ?yZ ?lZ ?lT ?aB ?iB ?jB ?lB ?cB ?kB ?pgB ?hdB ?poB ?saB ?mkB ?kcB ?nB0 ?nB1 ?nB2 ?nB3 ?nB4 ?nB5 ?nB6 ?nB7 ?nB8 ?nB9 ?nB10 ?nB11 ?nB12 ?nB13 ?nB14 ?nB15
    (case a0 => k_is)
    (case l0 => k_is)
    (case c0 => k_is)
    (case k0 => k_is)
    (case a1 => k_is)
    (case l1 => k_is)
    (case c1 => k_is)
    (case k1 => k_is)
    (case a2 => k_is)
    (case l2 => k_is)
    (case c2 => k_is)
    (case k2 => k_is)
    (case a3 => k_is)
    (case l3 => k_is)
    (case c3 => k_is)
    (case k3 => k_is)
    (case a4 => k_is)
    (case l4 => k_is)
    (case c4 => k_is)
    (case k4 => k_is)
    (case a5 => k_is)
    (case l5 => k_is)
    (case c5 => k_is)
    (case k5 => k_is)
    (case a6 => k_is)
    (case l6 => k_is)
    (case c6 => k_is)
    (case k6 => k_is)
    (case a7 => k_is)
    (case l7 => k_is)
    (case c7 => k_is)
    (case k7 => k_is)
    (case a8 => k_is)
    (case l8 => k_is)
    (case c8 => k_is)
    (case k8 => k_is)
    (case a9 => k_is)
    (case l9 => k_is)
    (case c9 => k_is)
    (case k9 => k_is)
    (case a10 => k_is)
    (case l10 => k_is)
    (case c10 => k_is)
    (case k10 => k_is)
    (case a11 => k_is)
    (case l11 => k_is)
    (case c11 => k_is)
    (case k11 => k_is)
    (case a12 => k_is)
    (case l12 => k_is)
    (case c12 => k_is)
    (case k12 => k_is)
    (case a13 => k_is)
    (case l13 => k_is)
    (case c13 => k_is)
    (case k13 => k_is)
    (case a14 => k_is)
    (case l14 => k_is)
    (case c14 => k_is)
    (case k14 => k_is)
    (case a15 => k_is)
    (case l15 => k_is)
    (case c15 => k_is)
    (case k15 => k_is)
    (case a16 => k_is)
    (case l16 => k_is)
    (case c16 => k_is)
    (case k16 => k_is)
    (case a17 => k_is)
    (case l17 => k_is)
    (case c17 => k_is)
    (case k17 => k_is)
    (case a18 => k_is)
    (case l18 => k_is)
    (case c18 => k_is)
    (case k18 => k_is)
    (case a19 => k_is)
    (case l19 => k_is)
    (case c19 => k_is)
    (case k19 => k_is)
    (case a20 => k_is)
    (case l20 => k_is)
    (case c20 => k_is)
    (case k20 => k_is)
    (case a21 => k_is)
    (case l21 => k_is)
    (case c21 => k_is)
    (case k21 => k_is)
    (case a22 => k_is)
    (case l22 => k_is)
    (case c22 => k_is)
    (case k22 => k_is)
    (case a23 => k_is)
    (case l23 => k_is)
    (case c23 => k_is)
    (case k23 => k_is)
    (case a24 => k_is)
    (case l24 => k_is)
    (case c24 => k_is)
    (case k24 => k_is)
    (case a25 => k_is)
    (case l25 => k_is)
    (case c25 => k_is)
    (case k25 => k_is)
    (case aD0 => k_is)
    (case lD0 => k_is)
    (case cD0 => k_is)
    (case kD0 => k_is)
    (case tD0 => k_is)
    (case vD0 => exact (.cons ⟨_, rfl⟩ .nil))
    (case aD1 => k_is)
    (case lD1 => k_is)
    (case cD1 => k_is)
    (case kD1 => k_is)
    (case tD1 => k_is)
    (case vD1 => exact (.cons rfl .nil))
    (case aLw => k_is)
    (case lLw => k_is)
    (case cLw => k_is)
    (case kLw => k_is)
    (case y_len => k_is)
    (case y_int => k_is)
    (case y_abs => k_is)
    (case y_range => k_is)
    (case y_isinstance => k_is)
    (case y_list => k_is)
    (case y_sorted => k_is)
    (case y_tuple => k_is)
    (case y_bool => k_is)
    (case y_str => k_is)
    (case y_gcd => k_is)
    (case yZ => k_is)
    (case lZ => k_is)
    (case lT => k_is)
    (case aB => k_is)
    (case iB => k_is)
    (case jB => k_is)
    (case lB => k_is)
    (case cB => k_is)
    (case kB => k_is)
    (case pgB => k_is)
    (case hdB => k_is)
    (case poB => k_is)
    (case saB => k_is)
    (case mkB => k_is)
    (case kcB => k_is)
    (case nB0 => k_is)
    (case nB1 => k_is)
    (case nB2 => k_is)
    (case nB3 => k_is)
    (case nB4 => k_is)
    (case nB5 => k_is)
    (case nB6 => k_is)
    (case nB7 => k_is)
    (case nB8 => k_is)
    (case nB9 => k_is)
    (case nB10 => k_is)
    (case nB11 => k_is)
    (case nB12 => k_is)
    (case nB13 => k_is)
    (case nB14 => k_is)
    (case nB15 => k_is)
