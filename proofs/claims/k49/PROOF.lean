import PyProof.Rows.All
import Wide.All
import OpenK.AllK
import Wide.FinOn
import HandS.ForMost
import HandS.Wide
import HandS.Gcd
import HandS.IsInst
import HandS.Defaults
import HandS.EndBits
import HandS.ForExc
import HandS.ExcIs
import HandS.Zip
import HandS.TupLe
import HandS.TryMany
import HandS.CallLocal
import HandS.CallSlots
import KE.KTupSum
import HandS.Walk
import HandS.ExcInit
import HandS.Star
import PySem.Challenge.RW_consol_k49_whole_interest_to_the_day
import HandS.Dict
import HandS.DictComp
import HandS.MakeKwOnly
import HandS.Rev
import HandS.RevTup
import KE.KRevIter
import PyProof.ListNew
import HandS.ExcField
import HandS.Property
import HandS.More
import HandS.Iter
import PyProof.ReprRoads
import PyProof.ReprBulk
import PyProof.FitsInt
import PyProof.DictMoreH
import KE.KDictWalk
import KE.KDictCopyH
import HandS.Conv
import KE.SortKeyHeap
import HandS.SortKw
import HandS.GenList
import HandS.AnyAll
import HandS.Comp
import HandS.Text
import HandS.Codes
import HandS.StrMore
import HandS.FStr
import HandS.JoinGen
import HandS.EndTab
import KE.IntTextLaws
import KE.IntTextText
import PyProof.StrLawsAffix
import HandS.WideBits
import PyProof.StrOps2
import HandS.ExcInitHot
import HandS.WrittenGet
import PyProof.DictTable
set_option Elab.async false
set_option linter.all false
set_option maxRecDepth 100000
set_option exponentiation.threshold 20000
namespace Cs
/-- the pair a fraction is -/
theorem divInt_pos (p q : Int) (hq : 0 < q) : (Rat.divInt p q).num = p / (Nat.gcd p.natAbs q.natAbs : Nat) ∧ ((Rat.divInt p q).den : Int) = q / (Nat.gcd p.natAbs q.natAbs : Nat) := by
  obtain ⟨n, rfl⟩ : ∃ n : Nat, q = (n : Int) := ⟨q.toNat, by omega⟩
  have hn : n ≠ 0 := by omega
  have e : Rat.divInt p (n : Int) = Rat.normalize p n hn := by
    rw [Rat.divInt_ofNat, ← Rat.normalize_eq_mkRat]
  rw [e, Rat.normalize_eq]
  refine ⟨rfl, ?_⟩
  show ((n / Nat.gcd p.natAbs n : Nat) : Int) = (n : Int) / (Nat.gcd p.natAbs (n : Int).natAbs : Nat)
  rw [Int.natAbs_natCast, Int.natCast_ediv]
theorem neg_ediv_dvd {a g : Int} (h : g ∣ a) : (-a) / g = -(a / g) := by
  obtain ⟨k, rfl⟩ := h
  by_cases hg : g = 0
  · subst hg; simp
  · rw [← Int.mul_neg, Int.mul_ediv_cancel_left _ hg, Int.mul_ediv_cancel_left _ hg]
theorem fdiv_neg_dvd {a g : Int} (hg : 0 < g) (h : g ∣ a) : a.fdiv (-g) = -(a / g) := by
  rw [Int.fdiv_neg (by omega), if_pos h, Int.fdiv_eq_ediv_of_nonneg _ (by omega)]
theorem gcd_dvd_p (p q : Int) : ((Nat.gcd p.natAbs q.natAbs : Nat) : Int) ∣ p := Int.ofNat_dvd_left.mpr (Nat.gcd_dvd_left _ _)
theorem gcd_dvd_q (p q : Int) : ((Nat.gcd p.natAbs q.natAbs : Nat) : Int) ∣ q := Int.ofNat_dvd_left.mpr (Nat.gcd_dvd_right _ _)
theorem gcd_pos (p q : Int) (hq : q ≠ 0) : 0 < ((Nat.gcd p.natAbs q.natAbs : Nat) : Int) := by
  have : 0 < Nat.gcd p.natAbs q.natAbs := Nat.gcd_pos_of_pos_right _ (by omega)
  omega
/-- what fraction computes -/
theorem frac_num (p q : Int) (hq : q ≠ 0) : (p.fdiv (if q < 0 then -((Nat.gcd p.natAbs q.natAbs : Nat) : Int) else ((Nat.gcd p.natAbs q.natAbs : Nat) : Int))) = (Rat.divInt p q).num := by
  have hg := gcd_pos p q hq
  split
  · rename_i h
    rw [fdiv_neg_dvd hg (gcd_dvd_p p q)]
    have e : Rat.divInt p q = Rat.divInt (-p) (-q) := by rw [Rat.neg_divInt_neg]
    rw [e, (divInt_pos (-p) (-q) (by omega)).1, Int.natAbs_neg, Int.natAbs_neg, neg_ediv_dvd (gcd_dvd_p p q)]
  · rename_i h
    rw [(divInt_pos p q (by omega)).1, Int.fdiv_eq_ediv_of_nonneg _ (by omega)]
theorem frac_den (p q : Int) (hq : q ≠ 0) : (q.fdiv (if q < 0 then -((Nat.gcd p.natAbs q.natAbs : Nat) : Int) else ((Nat.gcd p.natAbs q.natAbs : Nat) : Int))) = ((Rat.divInt p q).den : Int) := by
  have hg := gcd_pos p q hq
  split
  · rename_i h
    rw [fdiv_neg_dvd hg (gcd_dvd_q p q)]
    have e : Rat.divInt p q = Rat.divInt (-p) (-q) := by rw [Rat.neg_divInt_neg]
    rw [e, (divInt_pos (-p) (-q) (by omega)).2, Int.natAbs_neg, Int.natAbs_neg, neg_ediv_dvd (gcd_dvd_q p q)]
  · rename_i h
    rw [(divInt_pos p q (by omega)).2, Int.fdiv_eq_ediv_of_nonneg _ (by omega)]
/-! sizes -/
def Sz (n : Nat) (r : Rat) : Prop := r.num.natAbs < 2 ^ n ∧ r.den < 2 ^ n
theorem Sz.mono {n m : Nat} {r : Rat} (h : Sz n r) (k : n ≤ m) : Sz m r :=
  ⟨Nat.lt_of_lt_of_le h.1 (Nat.pow_le_pow_right (by decide) k), Nat.lt_of_lt_of_le h.2 (Nat.pow_le_pow_right (by decide) k)⟩
theorem sz_div {n : Nat} {p q : Int} (hq : q ≠ 0) (hp : p.natAbs < 2 ^ n) (h : q.natAbs < 2 ^ n) : Sz n (Rat.divInt p q) := by
  have hg := gcd_pos p q hq
  have key : ∀ p q : Int, 0 < q → p.natAbs < 2 ^ n → q.natAbs < 2 ^ n → Sz n (Rat.divInt p q) := by
    intro p q hq hp h
    have e1 := (divInt_pos p q hq).1
    have e2 := (divInt_pos p q hq).2
    refine ⟨?_, ?_⟩
    · rw [e1]
      refine Nat.lt_of_le_of_lt ?_ hp
      rw [Int.natAbs_ediv_of_dvd (gcd_dvd_p p q)]
      exact Nat.div_le_self _ _
    · have : (Rat.divInt p q).den = q.natAbs / (Nat.gcd p.natAbs q.natAbs) := by
        have : (((Rat.divInt p q).den : Int)).natAbs = (q / (Nat.gcd p.natAbs q.natAbs : Nat)).natAbs := by rw [e2]
        rw [Int.natAbs_natCast, Int.natAbs_ediv_of_dvd (gcd_dvd_q p q), Int.natAbs_natCast] at this
        exact this
      rw [this]
      exact Nat.lt_of_le_of_lt (Nat.div_le_self _ _) h
  by_cases hn : q < 0
  · have e : Rat.divInt p q = Rat.divInt (-p) (-q) := by rw [Rat.neg_divInt_neg]
    rw [e]
    exact key _ _ (by omega) (by rw [Int.natAbs_neg]; exact hp) (by rw [Int.natAbs_neg]; exact h)
  · exact key p q (by omega) hp h
theorem pow_lt {i j : Int} {a b : Nat} (ha : i.natAbs < 2 ^ a) (hb : j.natAbs < 2 ^ b) : (i * j).natAbs < 2 ^ (a + b) := by
  rw [Int.natAbs_mul, Nat.pow_add]
  exact Nat.mul_lt_mul'' ha hb
theorem add_lt {i j : Int} {a : Nat} (ha : i.natAbs < 2 ^ a) (hb : j.natAbs < 2 ^ a) : (i + j).natAbs < 2 ^ (a + 1) := by
  have : (2 : Nat) ^ (a + 1) = 2 ^ a * 2 := Nat.pow_succ ..
  omega
theorem sub_lt {i j : Int} {a : Nat} (ha : i.natAbs < 2 ^ a) (hb : j.natAbs < 2 ^ a) : (i - j).natAbs < 2 ^ (a + 1) := by
  have : (2 : Nat) ^ (a + 1) = 2 ^ a * 2 := Nat.pow_succ ..
  omega
theorem den_ne (r : Rat) : (r.den : Int) ≠ 0 := by have := r.den_nz; omega
theorem den_pos (r : Rat) : 0 < (r.den : Int) := by have := r.den_nz; omega
theorem add_div (r s : Rat) : Rat.divInt (r.num * s.den + s.num * r.den) (r.den * s.den) = r + s := by
  rw [← Rat.divInt_add_divInt _ _ (den_ne r) (den_ne s), Rat.num_divInt_den, Rat.num_divInt_den]
theorem sub_div (r s : Rat) : Rat.divInt (r.num * s.den - s.num * r.den) (r.den * s.den) = r - s := by
  rw [← Rat.divInt_sub_divInt _ _ (den_ne r) (den_ne s), Rat.num_divInt_den, Rat.num_divInt_den]
theorem mul_div (r s : Rat) : Rat.divInt (r.num * s.num) (r.den * s.den) = r * s := by
  rw [← Rat.divInt_mul_divInt, Rat.num_divInt_den, Rat.num_divInt_den]
theorem div_div (r s : Rat) : Rat.divInt (r.num * s.den) (r.den * s.num) = r / s := by
  rw [Rat.div_def, ← Rat.divInt_mul_divInt, Rat.num_divInt_den]
  rw [Rat.inv_def]
theorem num_ne {s : Rat} (h : s.num ≠ 0) : s ≠ 0 := fun e => h (by rw [e]; rfl)
/-! Euclid's steps -/
def EG (g : Nat) (N i : Nat) (a b : Nat) : Prop := Nat.gcd a b = g ∧ (i = 0 → a * b < 2 ^ N) ∧ (0 < i → b < a ∧ a * b < 2 ^ (N + 1 - i))
theorem EG.start {N a b : Nat} (h : a * b < 2 ^ N) : EG (Nat.gcd a b) N 0 a b := ⟨rfl, fun _ => h, fun z => absurd z (by decide)⟩
theorem EG.step {g N i a b : Nat} (h : EG g N i a b) (hb : 0 < b) (hi : i ≤ N) : EG g N (i + 1) b (a % b) := by
  obtain ⟨h1, h2, h3⟩ := h
  have hlt : a % b < b := Nat.mod_lt _ hb
  refine ⟨?_, fun z => absurd z (by omega), fun _ => ⟨hlt, ?_⟩⟩
  · rw [← h1, Nat.gcd_comm a b, Nat.gcd_rec b a, Nat.gcd_comm]
  · by_cases h0 : i = 0
    · subst h0
      have e := h2 rfl
      rw [show N + 1 - (0 + 1) = N by omega]
      refine Nat.lt_of_le_of_lt ?_ e
      rw [Nat.mul_comm a b]
      exact Nat.mul_le_mul_left _ (Nat.mod_le _ _)
    · obtain ⟨hba, hp⟩ := h3 (by omega)
      have e1 : N + 1 - i = (N + 1 - (i + 1)) + 1 := by omega
      rw [e1, Nat.pow_succ] at hp
      have hd := Nat.div_add_mod a b
      have hq : 1 ≤ a / b := Nat.div_pos (Nat.le_of_lt hba) hb
      have ha : b + a % b ≤ a := by
        have : b * 1 ≤ b * (a / b) := Nat.mul_le_mul_left _ hq
        omega
      have : b * (a % b) * 2 ≤ a * b := by
        have h5 : b * (a % b) + b * (a % b) ≤ b * (b + a % b) := by
          rw [Nat.mul_add]
          exact Nat.add_le_add_right (Nat.mul_le_mul_left _ (Nat.le_of_lt hlt)) _
        have h6 : b * (b + a % b) ≤ b * a := Nat.mul_le_mul_left _ ha
        rw [Nat.mul_comm a b]
        omega
      omega
theorem EG.zero {g N i a : Nat} (h : EG g N i a 0) : a = g := by
  have := h.1
  rwa [Nat.gcd_zero_right] at this
theorem EG.last {g N a b : Nat} (h : EG g N (N + 1) a b) : b = 0 := by
  obtain ⟨h1, h2⟩ := h.2.2 (by omega)
  rw [show N + 1 - (N + 1) = 0 by omega, Nat.pow_zero] at h2
  cases b with
  | zero => rfl
  | succ b =>
    have : 1 * 1 ≤ a * (b + 1) := Nat.mul_le_mul (by omega) (by omega)
    omega
end Cs
set_option maxHeartbeats 4000000
namespace Cs
open PySem PySem.Spec PyProof.Rows L2
/-! ### operators at any size -/
def CDivA (_ j : Int) : Prop := j ≠ 0 ∧ j.natAbs < 2 ^ 9000
section
variable {X : Cx}
theorem op_fdivA : OpR X (binaryOp .FloorDiv) (rI CDivA fun i j => .int (i.fdiv j)) := opI fun _ _ _ _ _ _ _ hc q =>
  floordiv_int hc.1 q (.inl (PyProof.noPylong_of_log2 (PySem.Flt.log2_lt_of (by decide) hc.2)))
theorem op_mulA : OpR X (binaryOp .Mult) (rI IntMulOk fun i j => .int (i * j)) := opI fun _ _ _ _ _ _ _ hc q => mul_int q hc
end
theorem mulL {i j : Int} (h : i.natAbs < 2 ^ 64) : IntMulOk i j := CMul.ok (.inl (by omega))
theorem mulR {i j : Int} (h : j.natAbs < 2 ^ 64) : IntMulOk i j := CMul.ok (.inr (by omega))
theorem mulB {i j : Int} {a : Nat} (hi : i.natAbs < 2 ^ a) (hj : j.natAbs < 2 ^ a) (h0 : 0 < a) (h : a ≤ 500000) : IntMulOk i j := (wide_mul hi hj h0 h0 (by omega)).ok
/-! ### a def that may be called -/
def Cal (P : Program) (w : World) (K : PySem.W.Frag) (mg : Str → Option Value) (base : Heap) (k : Nat) (x : Str) (ps : List Str) (sp : Sp) : Prop :=
  ∃ (f : Addr) (fd : FuncData), FnOk P w K mg base CX0 k f fd ps sp ∧ mg x = some (.ref f) ∧ PySem.W.keepIn K (.ref f) = true ∧ Binds K fd ps []
/-- a def of the text, with its place and how it binds -/
def FunG (K : PySem.W.Frag) (mg : Str → Option Value) (x : Str) (st : Stmt) (ps : List Str) : Prop :=
  ∃ (f : Addr) (fd : FuncData), Fun K x x st f fd ∧ mg x = some (.ref f) ∧ Binds K fd ps []
section
variable {P : Program} {w : World} {K : PySem.W.Frag} {mg : Str → Option Value} {base : Heap} {k j : Nat} {x : Str} {ps : List Str} {sp sp' : Sp} {st : Stmt}
theorem Cal.of (F : FunG K mg x st ps) (h : ∀ {f : Addr} {fd : FuncData}, Fun K x x st f fd → FnOk P w K mg base CX0 k f fd ps sp) : Cal P w K mg base k x ps sp := by
  obtain ⟨f, fd, F, g, b⟩ := F
  exact ⟨f, fd, h F, g, F.kp, b⟩
theorem Cal.mono (c : Cal P w K mg base j x ps sp) (h : j ≤ k) : Cal P w K mg base k x ps sp := by
  obtain ⟨f, fd, F, g⟩ := c
  exact ⟨f, fd, F.mono h, g⟩
theorem Cal.imp (c : Cal P w K mg base k x ps sp) (h : ∀ vs H Q E, sp' vs H Q E → sp vs H Q E) : Cal P w K mg base k x ps sp' := by
  obtain ⟨f, fd, F, g⟩ := c
  exact ⟨f, fd, F.imp h, g⟩
theorem FunG.of {f : Addr} {fd : FuncData} (F : Fun K x x st f fd) (g : mg x = some (.ref f)) (b : Binds K fd ps []) : FunG K mg x st ps := ⟨f, fd, F, g, b⟩
end
section
variable {X : Cx} {k : Nat} {x : Str} {ps : List Str} {sp : Sp} {p pos : Pos} {e : Expr} {es : List Expr} {t : TA}
theorem pe_cal (c : Cal X.prog X.w X.K X.mg X.base k x ps sp) (hr : Room k X.A) (hg : Gl X x) (ha : PA X (e :: es) t) (hdb : (x == ("__debug__" : Str)) = false := by decide)
    (he : starEach (e :: es) X.env = (false, eval e X.env) :: starEach es X.env := by rfl) (hpl : (backTo pos (starEach es X.env)).any (·.1) = false := by rfl) :
    PE X (.Call (.Name x p) (e :: es) [] pos) (tCall sp [] E0 t) := by
  obtain ⟨f, fd, F, g, kp, b⟩ := c
  exact pe_call F hr hg g kp b .nil pass0 ha hdb he hpl
end
/-! ### heaps -/
/-- all but d is as it was -/
def But (d : Addr) (H H' : Hp) : Prop := ∀ b o, b ≠ d → H b = some o → H' b = some o
theorem But.refl {d : Addr} {H : Hp} : But d H H := fun _ _ _ h => h
theorem But.trans {d : Addr} {H H1 H2 : Hp} (a : But d H H1) (b : But d H1 H2) : But d H H2 := fun c o n h => b c o n (a c o n h)
theorem But.upd {d : Addr} {H : Hp} {o : HO} : But d H (upd H d o) := fun b o' n h => by rw [upd_ne n]; exact h
theorem Same.but {d : Addr} {H H' : Hp} (s : Same H H') : But d H H' := fun b o _ h => s b o h
theorem Same.new {H : Hp} {p : Addr} {o : HO} (h : H p = none) : Same H (upd H p o) := fun b x e => by
  rw [upd_ne (ne_of_none e h)]
  exact e
theorem But.seq {K : PySem.W.Frag} {d a : Addr} {xs : List V} {H H' : Hp} (b : But d H H') (n : a ≠ d) (h : SqL K H a xs) : SqL K H' a xs := by
  rcases h with (h | ⟨o, h⟩) | h
  · exact .inl (.inl (b _ _ n h))
  · exact .inl (.inr ⟨o, b _ _ n h⟩)
  · exact .inr h
theorem But.tup {d a : Addr} {xs : List V} {H H' : Hp} {ys : List V} (b : But d H H') (hd : H d = some (.lst ys)) (h : H a = some (.tup xs)) : H' a = some (.tup xs) :=
  b a _ (ne_of h hd (fun z => nomatch z)) h
/-! ### the deck: the script's list, the next cell, what is left of a cell, the state -/
def DeckO (l : Addr) (b c e : Int) : HO := .lst [.ref l, .int b, .int c, .int e]
def Deck (K : PySem.W.Frag) (H : Hp) (d : Addr) : Prop := ∃ (l : Addr) (ns : List Int) (b c e : Int), H d = some (DeckO l b c e) ∧ SqL K H l (ns.map V.int) ∧ l ≠ d ∧ 0 ≤ b
theorem Deck.same {K : PySem.W.Frag} {H H' : Hp} {d : Addr} (s : Same H H') (h : Deck K H d) : Deck K H' d := by
  obtain ⟨l, ns, b, c, e, h1, h2, h3, h4⟩ := h
  exact ⟨l, ns, b, c, e, s _ _ h1, s.seq h2, h3, h4⟩
theorem Deck.lst {K : PySem.W.Frag} {H : Hp} {d : Addr} (h : Deck K H d) : ∃ ys, H d = some (.lst ys) := by
  obtain ⟨l, ns, b, c, e, h1, h2, h3, h4⟩ := h
  exact ⟨_, h1⟩
theorem But.tupD {K : PySem.W.Frag} {d a : Addr} {xs : List V} {H H' : Hp} (b : But d H H') (hd : Deck K H d) (h : H a = some (.tup xs)) : H' a = some (.tup xs) := by
  obtain ⟨ys, e⟩ := hd.lst
  exact b.tup e h
theorem deck_of {K : PySem.W.Frag} {H H1 : Hp} {d l : Addr} {ns : List Int} {b c e : Int} (hl : SqL K H l (ns.map V.int)) (ne : l ≠ d) (hb : But d H H1) (h : H1 d = some (DeckO l b c e)) (b0 : 0 ≤ b) : Deck K H1 d :=
  ⟨l, ns, b, c, e, h, hb.seq ne hl, ne, b0⟩
theorem cell_at {ns : List Int} {b : Int} (b0 : 0 ≤ b) (h : b < (ns.length : Int)) : ∃ z, atI (ns.map V.int) b = some (.int z) := by
  obtain ⟨j, rfl⟩ : ∃ j : Nat, b = (j : Int) := ⟨b.toNat, by omega⟩
  have hj : j < ns.length := by omega
  exact ⟨ns[j], atI_nat (by rw [List.getElem?_map, List.getElem?_eq_getElem hj]; rfl)⟩
def spDeck (K : PySem.W.Frag) : Sp := fun vs H Q _ => ∃ (a : Addr) (ns : List Int), vs = [.ref a] ∧ SqL K H a (ns.map V.int) ∧ ∀ d H', Same H H' → H d = none → Deck K H' d → Q (.ref d) H'
def spDraw (K : PySem.W.Frag) : Sp := fun vs H Q _ => ∃ (d : Addr) (m : Int), vs = [.ref d, .int m] ∧ 0 < m ∧ m.natAbs < 2 ^ 8000 ∧ Deck K H d ∧ ∀ v H', 0 ≤ v → v < m → But d H H' → Deck K H' d → Q (.int v) H'
/-! ### fractions -/
def nd (r : Rat) : HO := .tup [.int r.num, .int (r.den : Int)]
def spFrac : Sp := fun vs H Q _ => ∃ p q : Int, vs = [.int p, .int q] ∧ q ≠ 0 ∧ q.natAbs < 2 ^ 9000 ∧ ∀ t H', Same H H' → H t = none → H' t = some (nd (Rat.divInt p q)) → Q (.ref t) H'
def spGcd : Sp := fun vs H Q _ => ∃ a b : Nat, vs = [.int a, .int b] ∧ a < 2 ^ 2400 ∧ b < 2 ^ 2400 ∧ Q (.int (Nat.gcd a b : Nat)) H
def spRatio : Sp := fun vs H Q _ => ∃ p q : Int, vs = [.int p, .int q] ∧ q ≠ 0 ∧ p.natAbs < 2 ^ 2400 ∧ q.natAbs < 2 ^ 2400 ∧ ∀ t H', Same H H' → H t = none → H' t = some (nd (Rat.divInt p q)) → Q (.ref t) H'
def spOp (f : Rat → Rat → Rat) (ok : Rat → Rat → Prop) : Sp := fun vs H Q _ => ∃ (a b : Addr) (r s : Rat), vs = [.ref a, .ref b] ∧ H a = some (nd r) ∧ H b = some (nd s) ∧ Sz 1000 r ∧ Sz 1000 s ∧ ok r s ∧ ∀ t H', Same H H' → H t = none → H' t = some (nd (f r s)) → Q (.ref t) H'
def spCmp (f : Rat → Rat → V) : Sp := fun vs H Q _ => ∃ (a b : Addr) (r s : Rat), vs = [.ref a, .ref b] ∧ H a = some (nd r) ∧ H b = some (nd s) ∧ Sz 1000 r ∧ Sz 1000 s ∧ ∀ H', Same H H' → Q (f r s) H'
/-- -1, 0 or 1 -/
def cmpR (r s : Rat) : Int := (r.num * s.den - s.num * r.den).sign
theorem cmpR_eq {r s : Rat} (h : cmpR r s = 0) : r = s := by
  have e : r.num * s.den = s.num * r.den := by
    have := Int.sign_eq_zero_iff_zero.mp h
    omega
  have h1 : ¬ r < s := fun z => by have := (Rat.lt_iff r s).mp z; omega
  have h2 : ¬ s < r := fun z => by have := (Rat.lt_iff s r).mp z; omega
  grind
theorem cmpR_neg (r s : Rat) : cmpR s r = -cmpR r s := by
  unfold cmpR
  rw [← Int.sign_neg]
  congr 1
  omega
theorem cmpR_lt {r s : Rat} : cmpR r s = -1 ↔ r < s := by
  unfold cmpR
  rw [Rat.lt_iff, Int.sign_eq_neg_one_iff_neg]
  omega
theorem cmpR_gt {r s : Rat} : cmpR r s = 1 ↔ s < r := by
  unfold cmpR
  rw [Rat.lt_iff, Int.sign_eq_one_iff_pos]
  omega
theorem cmpR_three (r s : Rat) : cmpR r s = -1 ∨ cmpR r s = 0 ∨ cmpR r s = 1 := by
  unfold cmpR
  rcases Int.lt_trichotomy (r.num * s.den - s.num * r.den) 0 with h | h | h
  · exact .inl (Int.sign_eq_neg_one_iff_neg.mpr h)
  · rw [h]; exact .inr (.inl rfl)
  · exact .inr (.inr (Int.sign_eq_one_iff_pos.mpr h))
theorem cmpR_add (r s t : Rat) : cmpR (r + t) (s + t) = cmpR r s := by
  rcases cmpR_three r s with h | h | h
  · rw [h, cmpR_lt]
    have := cmpR_lt.mp h
    grind
  · rw [cmpR_eq h]
    unfold cmpR
    rw [Int.sub_self, Int.sub_self]
  · rw [h, cmpR_gt]
    have := cmpR_gt.mp h
    grind
theorem sign_le (d : Int) : d.sign ≤ 0 ↔ ¬ 0 < d := by
  rcases Int.lt_trichotomy d 0 with h | h | h
  · rw [Int.sign_eq_neg_one_iff_neg.mpr h]; omega
  · subst h; decide
  · rw [Int.sign_eq_one_iff_pos.mpr h]; omega
theorem sign_if (d : Int) : (if decide (0 < d) = true then (1 : Int) else 0) - (if decide (d < 0) = true then 1 else 0) = d.sign := by
  rcases Int.lt_trichotomy d 0 with h | h | h
  · rw [Int.sign_eq_neg_one_iff_neg.mpr h, decide_eq_true h, decide_eq_false (by omega)]; rfl
  · subst h; rfl
  · rw [Int.sign_eq_one_iff_pos.mpr h, decide_eq_true h, decide_eq_false (by omega)]; rfl
theorem sign_if2 (d : Int) : (if decide (d < 0) = true then (-1 : Int) else if decide (0 < d) = true then 1 else 0) = d.sign := by
  rcases Int.lt_trichotomy d 0 with h | h | h
  · rw [Int.sign_eq_neg_one_iff_neg.mpr h, decide_eq_true h]; rfl
  · subst h; rfl
  · rw [Int.sign_eq_one_iff_pos.mpr h, decide_eq_true h, decide_eq_false (by omega)]; rfl
/-! ### isinstance -/
theorem kit_ii : kitB "int" "int" = some true := by decide +kernel
theorem kit_ib : kitB "int" "bool" = some false := by decide +kernel
theorem kit_it : kitB "int" "tuple" = some false := by decide +kernel
theorem kit_bi : kitB "bool" "int" = some true := by decide +kernel
theorem kit_bb : kitB "bool" "bool" = some true := by decide +kernel
theorem kit_bt : kitB "bool" "tuple" = some false := by decide +kernel
theorem kit_tt : kitB "tuple" "tuple" = some true := by decide +kernel
/-- same as the law's own: ints, truths, fractions -/
def spSame0 : Sp := fun vs H Q _ => (∃ i j : Int, vs = [.int i, .int j] ∧ Q (.bl (decide (i = j))) H) ∨ (∃ a b : Bool, vs = [.bl a, .bl b] ∧ Q (.bl (decide (a = b))) H)
def spSame : Sp := fun vs H Q E => spSame0 vs H Q E ∨ ∃ (a b : Addr) (r s : Rat), vs = [.ref a, .ref b] ∧ H a = some (nd r) ∧ H b = some (nd s) ∧ Q (.bl (decide (r = s))) H
def spNumber (K : PySem.W.Frag) : Sp := fun vs H Q _ => ∃ d : Addr, vs = [.ref d] ∧ Deck K H d ∧ ∀ (t : Addr) (r : Rat) (H' : Hp), But d H H' → Deck K H' d → Sz 42 r → H' t = some (nd r) → Q (.ref t) H'
def spSmaller : Sp := fun vs H Q _ => ∃ (a b : Addr) (r s : Rat), vs = [.ref a, .ref b] ∧ H a = some (nd r) ∧ H b = some (nd s) ∧ Sz 1000 r ∧ Sz 1000 s ∧ ∀ H', Same H H' → Q (if cmpR r s ≤ 0 then .ref a else .ref b) H'
def spGreater : Sp := fun vs H Q _ => ∃ (a b : Addr) (r s : Rat), vs = [.ref a, .ref b] ∧ H a = some (nd r) ∧ H b = some (nd s) ∧ Sz 1000 r ∧ Sz 1000 s ∧ ∀ H', Same H H' → Q (if 0 ≤ cmpR r s then .ref a else .ref b) H'
def spWhole : Sp := fun vs H Q _ => ∃ (a : Addr) (r : Rat), vs = [.ref a] ∧ H a = some (nd r) ∧ Sz 1000 r ∧ Q (.int (r.num / (r.den : Int))) H
def spIsInt : Sp := fun vs H Q _ => ∃ i : Int, vs = [.int i] ∧ Q (.bl true) H
theorem nd_int (n : Int) : nd (n : Rat) = .tup [.int n, .int 1] := rfl
theorem nd_inj {r s : Rat} (h1 : r.num = s.num) (h2 : (r.den : Int) = s.den) : r = s := Rat.ext h1 (by omega)
theorem Sz.int {k : Nat} {n : Int} (h : n.natAbs < 2 ^ k) (hk : 0 < k) : Sz k (n : Rat) := ⟨h, Nat.one_lt_two_pow (by omega)⟩
theorem Sz.nn {n : Nat} {r : Rat} (h : Sz n r) : r.num.natAbs < 2 ^ n := h.1
theorem Sz.dd {n : Nat} {r : Rat} (h : Sz n r) : ((r.den : Int)).natAbs < 2 ^ n := by rw [Int.natAbs_natCast]; exact h.2
theorem mulZ {i j : Int} (hi : i.natAbs < 2 ^ 1000) (hj : j.natAbs < 2 ^ 1000) : IntMulOk i j := mulB hi hj (by decide) (by decide)
theorem lt9 {i : Int} {a : Nat} (h : i.natAbs < 2 ^ a) (k : a ≤ 9000) : i.natAbs < 2 ^ 9000 := Nat.lt_of_lt_of_le h (Nat.pow_le_pow_right (by decide) k)
theorem fdivI {i j : Int} {V' : Int → V} : (fun i j => V' (i.fdiv j)) i j = V' (i.fdiv j) := rfl
theorem sz_add {n : Nat} {r s : Rat} (h : Sz n r) (g : Sz n s) : Sz (n + n + 1) (r + s) := by
  rw [← add_div]
  exact sz_div (Int.mul_ne_zero (den_ne r) (den_ne s)) (add_lt (pow_lt h.nn g.dd) (pow_lt g.nn h.dd)) (Nat.lt_trans (pow_lt h.dd g.dd) (Nat.pow_lt_pow_right (by decide) (by omega)))
theorem sz_mul {n : Nat} {r s : Rat} (h : Sz n r) (g : Sz n s) : Sz (n + n) (r * s) := by
  rw [← mul_div]
  exact sz_div (Int.mul_ne_zero (den_ne r) (den_ne s)) (pow_lt h.nn g.nn) (pow_lt h.dd g.dd)
theorem sz_sub {n : Nat} {r s : Rat} (h : Sz n r) (g : Sz n s) : Sz (n + n + 1) (r - s) := by
  rw [← sub_div]
  exact sz_div (Int.mul_ne_zero (den_ne r) (den_ne s)) (sub_lt (pow_lt h.nn g.dd) (pow_lt g.nn h.dd)) (Nat.lt_trans (pow_lt h.dd g.dd) (Nat.pow_lt_pow_right (by decide) (by omega)))
theorem sz_quo {n : Nat} {r s : Rat} (h : Sz n r) (g : Sz n s) (hs : s.num ≠ 0) : Sz (n + n) (r / s) := by
  rw [← div_div]
  exact sz_div (Int.mul_ne_zero (den_ne r) hs) (pow_lt h.nn g.dd) (pow_lt h.dd g.nn)
theorem sz_zero {n : Nat} (h : 0 < n) : Sz n 0 := ⟨Nat.two_pow_pos n, Nat.one_lt_two_pow (by omega)⟩
def spLaw (K : PySem.W.Frag) : Sp := fun vs H Q _ => ∃ (a : Addr) (ns : List Int), vs = [.ref a] ∧ SqL K H a (ns.map V.int) ∧ ns.length ≤ 63 ∧ ∀ H', Q (.bl true) H'
/-! ### what the top has written -/
section
variable {K : PySem.W.Frag} {h : Heap} {mg : Str → Option Value}
theorem FunG.mk {x : Str} {st : Stmt} {ps : List Str} {f : Addr} {od an : Option Addr} {sl : Array (Option Value)} {oc kV dc pm cd ct : Value}
    (hb : ∀ (kV doc pm : Value) (an : Option Addr) (cdv ct : Value) (us : List Value), us.length = ps.length → bindArgs (PySem.W.fnOf x x (defArgs st) (defBody st) (defScope st) .none kV doc pm an cdv ct) ⟨us, []⟩ = pure (ps.zip us))
    (X : K.In h) (G : h.Ns mainGlobals mg)
    (a : PySem.W.nsIn K mainGlobals x = some (some (.ref f))) (l : K.lookup f = some ⟨oc, od, .func (PySem.W.fnOf x x (defArgs st) (defBody st) (defScope st) .none kV dc pm an cd ct), sl⟩) (c : PySem.W.codeIn K cd x = true) (k : PySem.W.keepIn K (.ref f) = true) : FunG K mg x st ps := by
  have F := fun_mk (st := st) l c k
  exact ⟨f, _, F, PySem.W.mg_of X G a, F.binds hb⟩
/-- a def of two parameters, the second one with an int as its default, called with both -/
def FunD2 (K : PySem.W.Frag) (mg : Str → Option Value) (x : Str) (st : Stmt) (ps : List Str) : Prop :=
  ∃ (f : Addr) (fd : FuncData), FunD K x x (defArgs st) (defBody st) (defScope st) [.int 1] [] f fd ∧ mg x = some (.ref f) ∧ PySem.W.keepIn K (.ref f) = true ∧ Binds K fd ps []
theorem FunD2.mk {x p q : Str} {st : Stmt} {f T : Addr} {od an dT : Option Addr} {sl slT : Array (Option Value)} {oc kV dc pm cd ct cT : Value} {nT : Nat} {tk : Tok}
    (hb : ∀ (T : Addr) (kV doc pm : Value) (an : Option Addr) (cdv ct : Value) (us its : List Value), us.length = 2 → its.length = ([V.int 1]).length →
      ∃ k, bindArgs (PySem.W.fnOf x x (defArgs st) (defBody st) (defScope st) (.ref T) kV doc pm an cdv ct) ⟨us, []⟩ = seqItems? (.ref T) >>= k ∧ k (some its.toArray) = pure ([p, q].zip (us ++ its.drop 1)))
    (X : K.In h) (G : h.Ns mainGlobals mg)
    (a : PySem.W.nsIn K mainGlobals x = some (some (.ref f))) (l : K.lookup f = some ⟨oc, od, .func (PySem.W.fnOf x x (defArgs st) (defBody st) (defScope st) (.ref T) kV dc pm an cd ct), sl⟩) (c : PySem.W.codeIn K cd x = true) (k : PySem.W.keepIn K (.ref f) = true)
    (lT : K.lookup T = some ⟨cT, dT, .seq #[.int 1 tk] nT, slT⟩) : FunD2 K mg x st [p, q] := by
  have F : FunD K x x (defArgs st) (defBody st) (defScope st) [.int 1] [] f _ := ⟨⟨oc, od, .ref T, kV, dc, pm, an, cd, ct, sl, rfl, l, c, .inr ⟨by simp, T, _, [.int 1 tk], nT, rfl, lT, rfl, .cons ⟨tk, rfl⟩ .nil⟩, .inl rfl⟩, k⟩
  obtain ⟨ds, hv, hB⟩ := F.binds1 (ps := [p, q]) 2 1 (by simp) rfl hb
  cases hv
  exact ⟨f, _, F, PySem.W.mg_of X G a, k, hB⟩
end
end Cs
set_option maxHeartbeats 4000000
namespace Cs
open PySem PySem.Spec PyProof.Rows L2
/-! ### heaps in which the things that change are hidden -/
def hid (S : List Addr) (H : Hp) : Hp := fun a => if a ∈ S then none else H a
section
variable {S T : List Addr} {H H' : Hp} {a p : Addr} {o : HO}
theorem hid_of (h : a ∉ S) : hid S H a = H a := by unfold hid; rw [if_neg h]
theorem hid_sub : Same (hid S H) H := fun b o h => by
  unfold hid at h
  split at h
  · cases h
  · exact h
theorem hid_same (e : Same H H') : Same (hid S H) (hid S H') := fun b o h => by
  unfold hid at h ⊢
  split at h
  · cases h
  · rename_i q; rw [if_neg q]; exact e _ _ h
theorem hid_less (h : ∀ a, a ∈ S → a ∈ T) : Same (hid T H) (hid S H) := fun b o q => by
  unfold hid at q ⊢
  split at q
  · cases q
  · rename_i z; rw [if_neg (fun y => z (h _ y))]; exact q
theorem hid_upd (h : a ∈ S) : hid S (upd H a o) = hid S H := by
  funext b
  unfold hid
  split
  · rfl
  · rename_i q; exact upd_ne (fun z => q (z ▸ h))
end
/-- all but M is as it was -/
def Bt (M : List Addr) (H H' : Hp) : Prop := ∀ b o, b ∉ M → H b = some o → H' b = some o
theorem Bt.refl {M : List Addr} {H : Hp} : Bt M H H := fun _ _ _ h => h
theorem Bt.trans {M : List Addr} {H H1 H2 : Hp} (a : Bt M H H1) (b : Bt M H1 H2) : Bt M H H2 := fun c o n h => b c o n (a c o n h)
theorem Bt.of {M : List Addr} {H H' : Hp} (e : Same H H') : Bt M H H' := fun b o _ h => e b o h
theorem Bt.same {H H' : Hp} (e : Bt [] H H') : Same H H' := fun b o h => e b o (by simp) h
theorem Bt.mono {M N : List Addr} {H H' : Hp} (e : Bt M H H') (h : ∀ a, a ∈ M → a ∈ N) : Bt N H H' := fun b o n q => e b o (fun z => n (h _ z)) q
/-- news are the addresses that are hidden from now on: they were free -/
theorem Bt.hid {M S N : List Addr} {H H' : Hp} (e : Bt M H H') (h : ∀ a, a ∈ M → a ∈ S) (hN : ∀ a, a ∈ N → a ∈ S ∨ H a = none) : Same (hid S H) (hid (N ++ S) H') := fun b o q => by
  have q' := hid_sub _ _ q
  have n : b ∉ S := fun z => by unfold Cs.hid at q; rw [if_pos z] at q; cases q
  have n2 : b ∉ N ++ S := fun z => by
    rcases List.mem_append.mp z with z | z
    · rcases hN b z with y | y
      · exact n y
      · rw [y] at q'; cases q'
    · exact n z
  rw [hid_of n2]
  exact e b o (fun z => n (h _ z)) q'
/-! ### what a value is, by a Lean value -/
structure Ty (α : Type) where
  r : Hp → V → α → Prop
  mono : ∀ {H H' : Hp} {v : V} {x : α}, Same H H' → r H v x → r H' v x
/-- what a slot holds -/
structure SF where
  p : Hp → V → Prop
  mono : ∀ {H H' : Hp} {v : V}, Same H H' → p H v → p H' v
/-- what stands in a cell -/
structure CF where
  p : Hp → HO → Prop
  mono : ∀ {H H' : Hp} {o : HO}, Same H H' → p H o → p H' o
/-- a thing that changes: the addresses that are its own, and what is true of them (F: what can be read otherwise) -/
structure RS where
  fp : List Addr
  p : Hp → Hp → Prop
  mono : ∀ {F F' H : Hp}, Same F F' → p F H → p F' H
  loc : ∀ {F H H' : Hp}, (∀ a, a ∈ fp → H' a = H a) → p F H → p F H'
def cell (a : Addr) (φ : CF) : RS := ⟨[a], fun F H => ∃ o, H a = some o ∧ φ.p F o, fun e ⟨o, h, g⟩ => ⟨o, h, φ.mono e g⟩, fun e ⟨o, h, g⟩ => ⟨o, by rw [e a (List.mem_cons_self ..)]; exact h, g⟩⟩
def Ty.is {α : Type} (t : Ty α) (x : α) : SF := ⟨fun H v => t.r H v x, fun e h => t.mono e h⟩
/-- what is known of the heap -/
structure FF where
  p : Hp → Prop
  mono : ∀ {H H' : Hp}, Same H H' → p H → p H'
def fps (L : List RS) : List Addr := L.flatMap RS.fp
theorem mem_fps {L : List RS} {r : RS} {a : Addr} (h : r ∈ L) (g : a ∈ r.fp) : a ∈ fps L := List.mem_flatMap.mpr ⟨r, h, g⟩
theorem of_fps {L : List RS} {a : Addr} (h : a ∈ fps L) : ∃ r, r ∈ L ∧ a ∈ r.fp := by
  obtain ⟨r, h1, h2⟩ := List.mem_flatMap.mp h
  exact ⟨r, h1, h2⟩
theorem fps_sub {A B : List RS} (h : A.Sublist B) : (fps A).Sublist (fps B) := by
  induction h with
  | slnil => exact List.Sublist.refl _
  | cons a _ ih => exact ih.trans (List.sublist_append_right _ _)
  | cons_cons a _ ih => exact List.Sublist.append (List.Sublist.refl _) ih
structure Wd where
  H0 : Hp
  M : List Addr
  S : List Addr
  L : List RS
  F : List FF
  G : List (Option SF)
structure Ok (W : Wd) (σ : L2.St) (H : Hp) : Prop where
  nod : (fps W.L).Nodup
  own : ∀ a, a ∈ fps W.L → a ∈ W.S ∧ (a ∈ W.M ∨ W.H0 a = none)
  at_ : ∀ r, r ∈ W.L → r.p (hid W.S H) H
  ms : ∀ a, a ∈ W.M → a ∈ W.S
  al : ∀ a, a ∈ W.S → H a ≠ none
  bt : Bt W.M W.H0 H
  len : σ.length = W.G.length
  facts : ∀ f, f ∈ W.F → f.p (hid W.S H)
  slots : ∀ (i : Nat) (f : SF), W.G[i]? = some (some f) → ∃ v, σ[i]? = some (some v) ∧ f.p (hid W.S H) v
/-- from H to H': the world stands, what is not hidden is kept -/
structure Go1 (W : Wd) (σ : L2.St) (H H' : Hp) : Prop where
  ok : Ok W σ H'
  up : Same (hid W.S H) (hid W.S H')
section
variable {W : Wd} {σ : L2.St} {H H' H1 H2 : Hp}
theorem Go1.refl (h : Ok W σ H) : Go1 W σ H H := ⟨h, Same.refl _⟩
theorem Go1.trans (a : Go1 W σ H H1) (b : Go1 W σ H1 H2) : Go1 W σ H H2 := ⟨b.ok, a.up.trans b.up⟩
theorem eq_of_same (e : Same H H') {a : Addr} (h : H a ≠ none) : H' a = H a := by
  cases q : H a with
  | none => exact absurd q h
  | some o => exact e _ _ q
theorem Ok.same (h : Ok W σ H) (e : Same H H') : Ok W σ H' where
  nod := h.nod
  own := h.own
  at_ := fun r m => r.mono (hid_same e) (r.loc (fun a q => eq_of_same e (h.al a (h.own a (mem_fps m q)).1)) (h.at_ r m))
  ms := h.ms
  al := fun a m => by rw [eq_of_same e (h.al a m)]; exact h.al a m
  bt := h.bt.trans (Bt.of e)
  len := h.len
  facts := fun f m => f.mono (hid_same e) (h.facts f m)
  slots := fun i f g => by
    obtain ⟨v, q, z⟩ := h.slots i f g
    exact ⟨v, q, f.mono (hid_same e) z⟩
theorem Ok.go (h : Ok W σ H) (e : Same H H') : Go1 W σ H H' := ⟨h.same e, hid_same e⟩
theorem Ok.new {p : Addr} {o : HO} (h : Ok W σ H) (n : H p = none) : Go1 W σ H (upd H p o) := h.go (Same.new n)
theorem Ok.off {p : Addr} (h : Ok W σ H) (n : H p = none) : p ∉ W.S := fun z => h.al p z n
def RsAt (C : List RS) (S : List Addr) (H : Hp) : Prop := ∀ r, r ∈ C → r.p (hid S H) H
/-- the things C change to C', at their addresses and at new ones (N) -/
theorem Ok.change {C C' R : List RS} {N : List Addr} (h : Ok W σ H) (eL : ∀ r, r ∈ W.L ↔ r ∈ C ∨ r ∈ R) (nR : ∀ r, r ∈ R → ∀ a, a ∈ r.fp → a ∉ fps C) (nodR : (fps (C' ++ R)).Nodup) (b : Bt (fps C) H H')
    (hN : ∀ a, a ∈ N → H a = none ∧ H' a ≠ none) (hC' : ∀ a, a ∈ fps C' → (a ∈ fps C ∨ a ∈ N)) (hal : ∀ a, a ∈ fps C → H' a ≠ none) (hc : RsAt C' (N ++ W.S) H') : Ok { W with S := N ++ W.S, L := C' ++ R } σ H' ∧ Same (hid W.S H) (hid (N ++ W.S) H') := by
  have hCS : ∀ a, a ∈ fps C → a ∈ W.S ∧ (a ∈ W.M ∨ W.H0 a = none) := fun a m => by
    obtain ⟨r, m1, m2⟩ := of_fps m
    exact h.own a (mem_fps ((eL r).mpr (.inl m1)) m2)
  have up : Same (hid W.S H) (hid (N ++ W.S) H') := b.hid (fun a m => (hCS a m).1) fun a m => .inr (hN a m).1
  have h0 : ∀ a, H a = none → W.H0 a = none := fun a n => by
    cases q : W.H0 a with
    | none => rfl
    | some o =>
      by_cases hm : a ∈ W.M
      · exact absurd n (h.al a (h.ms a hm))
      · rw [h.bt a o hm q] at n; cases n
  refine ⟨⟨nodR, fun a m => ?_, fun r m => ?_, fun a m => List.mem_append_right _ (h.ms a m), fun a m => ?_, fun c o n q => ?_, h.len, fun f m => f.mono up (h.facts f m), fun i f g => ?_⟩, up⟩
  · obtain ⟨r, m1, m2⟩ := of_fps m
    rcases List.mem_append.mp m1 with m1 | m1
    · rcases hC' a (mem_fps m1 m2) with q | q
      · exact ⟨List.mem_append_right _ (hCS a q).1, (hCS a q).2⟩
      · exact ⟨List.mem_append_left _ q, .inr (h0 a (hN a q).1)⟩
    · have := h.own a (mem_fps ((eL r).mpr (.inr m1)) m2)
      exact ⟨List.mem_append_right _ this.1, this.2⟩
  · rcases List.mem_append.mp m with m | m
    · exact hc r m
    · refine r.mono up (r.loc (fun a q => ?_) (h.at_ r ((eL r).mpr (.inr m))))
      have al := h.al a (h.own a (mem_fps ((eL r).mpr (.inr m)) q)).1
      cases e : H a with
      | none => exact absurd e al
      | some o => exact b a o (nR r m a q) e
  · rcases List.mem_append.mp m with m | m
    · exact (hN a m).2
    · by_cases q : a ∈ fps C
      · exact hal a q
      · intro z
        cases e : H a with
        | none => exact h.al a m e
        | some o => rw [b a o q e] at z; cases z
  · have q1 := h.bt c o n q
    by_cases hin : c ∈ fps C
    · rcases (hCS c hin).2 with z | z
      · exact absurd z n
      · have q : W.H0 c = some o := q
        rw [z] at q; cases q
    · exact b c o hin q1
  · obtain ⟨v, q, z⟩ := h.slots i f g
    exact ⟨v, q, f.mono up z⟩
end
theorem nodup_app {A B : List RS} : (fps (A ++ B)).Nodup ↔ (fps A).Nodup ∧ (fps B).Nodup ∧ ∀ a, a ∈ fps A → a ∉ fps B := by
  unfold fps
  rw [List.flatMap_append, List.nodup_append]
  exact ⟨fun ⟨h1, h2, h3⟩ => ⟨h1, h2, fun a m1 m2 => h3 a m1 a m2 rfl⟩, fun ⟨h1, h2, h3⟩ => ⟨h1, h2, fun a m1 b m2 e => h3 a m1 (e ▸ m2)⟩⟩
section
variable {W : Wd} {σ : L2.St} {H H' : Hp}
/-- the first things of the world change -/
theorem Ok.change1 {C C' R : List RS} {N : List Addr} (h : Ok W σ H) (eL : W.L = C ++ R) (b : Bt (fps C) H H') (hN : ∀ a, a ∈ N → H a = none ∧ H' a ≠ none) (nodC : (fps C').Nodup) (hC' : ∀ a, a ∈ fps C' → (a ∈ fps C ∨ a ∈ N)) (hal : ∀ a, a ∈ fps C → H' a ≠ none)
    (hc : RsAt C' (N ++ W.S) H') : Ok { W with S := N ++ W.S, L := C' ++ R } σ H' ∧ Same (hid W.S H) (hid (N ++ W.S) H') := by
  have nd := h.nod
  rw [eL] at nd
  obtain ⟨n1, n2, n3⟩ := nodup_app.mp nd
  refine h.change (fun r => by rw [eL, List.mem_append]) (fun r m a q z => n3 a z (mem_fps m q)) (nodup_app.mpr ⟨nodC, n2, fun a m z => ?_⟩) b hN hC' hal hc
  rcases hC' a m with q | q
  · exact n3 a q z
  · have := h.al a (h.own a (by rw [eL]; obtain ⟨r, m1, m2⟩ := of_fps z; exact mem_fps (List.mem_append_right _ m1) m2)).1
    exact this (hN a q).1
/-- a callee changed the things C, and left what they promise -/
theorem Ok.after {C : List RS} (h : Ok W σ H) (hC : ∀ r, r ∈ C → r ∈ W.L) (b : Bt (fps C) H H') (hal : ∀ a, a ∈ fps C → H' a ≠ none) (hc : RsAt C W.S H') : Go1 W σ H H' := by
  have hCS : ∀ a, a ∈ fps C → a ∈ W.S ∧ (a ∈ W.M ∨ W.H0 a = none) := fun a m => by
    obtain ⟨r, m1, m2⟩ := of_fps m
    exact h.own a (mem_fps (hC r m1) m2)
  have up : Same (hid W.S H) (hid W.S H') := b.hid (N := []) (fun a m => (hCS a m).1) (fun a m => nomatch m)
  have disj : ∀ (L : List RS), (fps L).Nodup → ∀ r r' a, r ∈ L → r' ∈ L → a ∈ r.fp → a ∈ r'.fp → r = r' := by
    intro L
    induction L with
    | nil => intro _ r r' a m; cases m
    | cons x L ih =>
      intro nd r r' a m m' q q'
      have nd' : (fps ([x] ++ L)).Nodup := nd
      obtain ⟨_, n2, n3⟩ := nodup_app.mp nd'
      rcases List.mem_cons.mp m with m | m <;> rcases List.mem_cons.mp m' with m' | m'
      · rw [m, m']
      · exact absurd (mem_fps m' q') (n3 a (mem_fps (List.mem_cons_self ..) (m ▸ q)))
      · exact absurd (mem_fps m q) (n3 a (mem_fps (List.mem_cons_self ..) (m' ▸ q')))
      · exact ih n2 r r' a m m' q q'
  refine ⟨⟨h.nod, h.own, fun r m => ?_, h.ms, fun a m => ?_, fun c o n q => ?_, h.len, fun f m => f.mono up (h.facts f m), fun i f g => ?_⟩, up⟩
  · by_cases hin : r ∈ C
    · exact hc r hin
    · refine r.mono up (r.loc (fun a q => ?_) (h.at_ r m))
      have al := h.al a (h.own a (mem_fps m q)).1
      have off : a ∉ fps C := fun z => by
        obtain ⟨r', m1, m2⟩ := of_fps z
        exact hin (disj _ h.nod r r' a m (hC r' m1) q m2 ▸ m1)
      cases e : H a with
      | none => exact absurd e al
      | some o => exact b a o off e
  · by_cases q : a ∈ fps C
    · exact hal a q
    · intro z
      cases e : H a with
      | none => exact h.al a m e
      | some o => rw [b a o q e] at z; cases z
  · have q1 := h.bt c o n q
    by_cases hin : c ∈ fps C
    · rcases (hCS c hin).2 with z | z
      · exact absurd z n
      · have q : W.H0 c = some o := q
        rw [z] at q; cases q
    · exact b c o hin q1
  · obtain ⟨v, q, z⟩ := h.slots i f g
    exact ⟨v, q, f.mono up z⟩
/-- the things in another order -/
theorem Ok.perm {L' : List RS} (h : Ok W σ H) (p : W.L.Perm L') : Ok { W with L := L' } σ H := by
  have pf : (fps W.L).Perm (fps L') := p.flatMap_right RS.fp
  exact ⟨pf.nodup_iff.mp h.nod, fun a m => h.own a (pf.mem_iff.mpr m), fun r m => h.at_ r (p.mem_iff.mpr m), h.ms, h.al, h.bt, h.len, h.facts, h.slots⟩
/-- a cell is written -/
theorem Ok.write {a : Addr} {φ ψ : CF} {R : List RS} {o : HO} (h : Ok W σ H) (e : W.L = cell a φ :: R) (hp : ψ.p (hid W.S H) o) : Go1 { W with L := cell a ψ :: R } σ H (upd H a o) := by
  have hS : a ∈ W.S := (h.own a (by rw [e]; exact mem_fps (List.mem_cons_self ..) (List.mem_cons_self ..))).1
  have eq : hid W.S (upd H a o) = hid W.S H := hid_upd hS
  have fa : fps [cell a φ] = [a] := rfl
  obtain ⟨o2, _⟩ := h.change1 (C := [cell a φ]) (C' := [cell a ψ]) (R := R) (N := []) (H' := upd H a o) e (fun b u n q => by rw [upd_ne (fun z => n (by rw [fa, z]; exact List.mem_cons_self ..))]; exact q) (fun b m => nomatch m) (by show [a].Nodup; simp) (fun b m => .inl m) (fun b m => by
    obtain rfl : b = a := by simpa [fa] using m
    rw [upd_same]; simp) (fun r m => by
    obtain rfl : r = cell a ψ := by simpa using m
    exact ⟨o, upd_same, by show ψ.p (hid W.S (upd H a o)) o; rw [eq]; exact hp⟩)
  exact ⟨o2, by show Same (hid W.S H) (hid W.S (upd H a o)); rw [eq]; exact Same.refl _⟩
/-- a new cell -/
theorem Ok.cell {p : Addr} {ψ : CF} {o : HO} (h : Ok W σ H) (n : H p = none) (hp : ψ.p (hid W.S H) o) : Ok { W with S := p :: W.S, L := Cs.cell p ψ :: W.L } σ (upd H p o) ∧ Same (hid W.S H) (hid (p :: W.S) (upd H p o)) :=
  have up : Same (hid W.S H) (hid (p :: W.S) (upd H p o)) := Bt.hid (M := []) (N := [p]) (Bt.of (Same.new n)) (fun a m => nomatch m) (fun a m => .inr (by rw [List.mem_singleton.mp m]; exact n))
  h.change1 (C := []) (C' := [Cs.cell p ψ]) (R := W.L) (N := [p]) rfl (Bt.of (Same.new n)) (fun a m => by
    obtain rfl : a = p := by simpa using m
    exact ⟨n, by rw [upd_same]; simp⟩) (by show [p].Nodup; simp) (fun a m => .inr m) (fun a m => nomatch m) (fun r m => by
    obtain rfl : r = Cs.cell p ψ := by simpa using m
    exact ⟨o, upd_same, ψ.mono up hp⟩)
end
end Cs
set_option maxHeartbeats 4000000
namespace Cs
open PySem PySem.Spec PyProof.Rows L2
/-! ### what readings come to -/
def Fits (H : Hp) : List SF → List V → Prop
  | [], [] => True
  | f :: fs, v :: vs => f.p H v ∧ Fits H fs vs
  | _, _ => False
theorem Fits.mono {H H' : Hp} (e : Same H H') : ∀ {fs : List SF} {vs : List V}, Fits H fs vs → Fits H' fs vs
  | [], [], _ => trivial
  | _ :: _, _ :: _, ⟨a, b⟩ => ⟨SF.mono _ e a, Fits.mono e b⟩
  | [], _ :: _, h => h.elim
  | _ :: _, [], h => h.elim
theorem Fits.length {H : Hp} : ∀ {fs : List SF} {vs : List V}, Fits H fs vs → vs.length = fs.length
  | [], [], _ => rfl
  | _ :: _, _ :: _, ⟨_, b⟩ => by simp [Fits.length b]
  | [], _ :: _, h => h.elim
  | _ :: _, [], h => h.elim
theorem Fits.get {H : Hp} : ∀ {fs : List SF} {vs : List V} {i : Nat} {f : SF}, Fits H fs vs → fs[i]? = some f → ∃ v, vs[i]? = some v ∧ f.p H v
  | [], [], _, _, _, q => by simp at q
  | _ :: _, v :: _, 0, f, ⟨a, _⟩, q => by simp at q; subst q; exact ⟨v, rfl, a⟩
  | _ :: _, _ :: _, i + 1, f, ⟨_, b⟩, q => by
    obtain ⟨v, h1, h2⟩ := Fits.get b (i := i) (f := f) (by simpa using q)
    exact ⟨v, by simpa using h1, h2⟩
  | [], _ :: _, _, _, h, _ => h.elim
  | _ :: _, [], _, _, h, _ => h.elim
/-- the values vs are the xs -/
def All2 {α : Type} (r : V → α → Prop) : List V → List α → Prop
  | [], [] => True
  | v :: vs, x :: xs => r v x ∧ All2 r vs xs
  | _, _ => False
section
variable {α β : Type} {r q : V → α → Prop}
theorem All2.mono (e : ∀ v x, r v x → q v x) : ∀ {vs : List V} {xs : List α}, All2 r vs xs → All2 q vs xs
  | [], [], _ => trivial
  | _ :: _, _ :: _, ⟨a, b⟩ => ⟨e _ _ a, All2.mono e b⟩
  | [], _ :: _, h => h.elim
  | _ :: _, [], h => h.elim
theorem All2.length : ∀ {vs : List V} {xs : List α}, All2 r vs xs → vs.length = xs.length
  | [], [], _ => rfl
  | _ :: _, _ :: _, ⟨_, b⟩ => by simp [All2.length b]
  | [], _ :: _, h => h.elim
  | _ :: _, [], h => h.elim
theorem All2.get : ∀ {vs : List V} {xs : List α} {i : Nat} {x : α}, All2 r vs xs → xs[i]? = some x → ∃ v, vs[i]? = some v ∧ r v x
  | [], [], _, _, _, q => by simp at q
  | v :: _, _ :: _, 0, x, ⟨a, _⟩, q => by simp at q; subst q; exact ⟨v, rfl, a⟩
  | _ :: _, _ :: _, i + 1, x, ⟨_, b⟩, q => by
    obtain ⟨v, h1, h2⟩ := All2.get b (i := i) (x := x) (by simpa using q)
    exact ⟨v, by simpa using h1, h2⟩
  | [], _ :: _, _, _, h, _ => h.elim
  | _ :: _, [], _, _, h, _ => h.elim
theorem All2.getV : ∀ {vs : List V} {xs : List α} {i : Nat} {v : V}, All2 r vs xs → vs[i]? = some v → ∃ x, xs[i]? = some x ∧ r v x
  | [], [], _, _, _, q => by simp at q
  | _ :: _, x :: _, 0, v, ⟨a, _⟩, q => by simp at q; subst q; exact ⟨x, rfl, a⟩
  | _ :: _, _ :: _, i + 1, v, ⟨_, b⟩, q => by
    obtain ⟨x, h1, h2⟩ := All2.getV b (i := i) (v := v) (by simpa using q)
    exact ⟨x, by simpa using h1, h2⟩
  | [], _ :: _, _, _, h, _ => h.elim
  | _ :: _, [], _, _, h, _ => h.elim
theorem All2.app : ∀ {vs ws : List V} {xs ys : List α}, All2 r vs xs → All2 r ws ys → All2 r (vs ++ ws) (xs ++ ys)
  | [], _, [], _, _, g => g
  | _ :: _, _, _ :: _, _, ⟨a, b⟩, g => ⟨a, All2.app b g⟩
  | [], _, _ :: _, _, h, _ => h.elim
  | _ :: _, _, [], _, h, _ => h.elim
theorem All2.take : ∀ {vs : List V} {xs : List α} (n : Nat), All2 r vs xs → All2 r (vs.take n) (xs.take n)
  | _, _, 0, _ => trivial
  | [], [], _ + 1, _ => trivial
  | _ :: _, _ :: _, n + 1, ⟨a, b⟩ => ⟨a, All2.take n b⟩
  | [], _ :: _, _ + 1, h => h.elim
  | _ :: _, [], _ + 1, h => h.elim
theorem All2.drop : ∀ {vs : List V} {xs : List α} (n : Nat), All2 r vs xs → All2 r (vs.drop n) (xs.drop n)
  | _, _, 0, h => h
  | [], [], _ + 1, _ => trivial
  | _ :: _, _ :: _, n + 1, ⟨_, b⟩ => All2.drop n b
  | [], _ :: _, _ + 1, h => h.elim
  | _ :: _, [], _ + 1, h => h.elim
theorem All2.set {v : V} {x : α} (h : r v x) : ∀ {vs : List V} {xs : List α} (i : Nat), All2 r vs xs → All2 r (vs.set i v) (xs.set i x)
  | [], [], _, _ => trivial
  | _ :: _, _ :: _, 0, ⟨_, b⟩ => ⟨h, b⟩
  | _ :: _, _ :: _, i + 1, ⟨a, b⟩ => ⟨a, All2.set h i b⟩
  | [], _ :: _, _, h => h.elim
  | _ :: _, [], _, h => h.elim
theorem All2.ofMap (f : α → V) (h : ∀ x, r (f x) x) : ∀ (xs : List α), All2 r (xs.map f) xs
  | [] => trivial
  | x :: xs => ⟨h x, All2.ofMap f h xs⟩
theorem All2.toMap (f : α → V) (h : ∀ v x, r v x → v = f x) : ∀ {vs : List V} {xs : List α}, All2 r vs xs → vs = xs.map f
  | [], [], _ => rfl
  | _ :: _, _ :: _, ⟨a, b⟩ => by rw [h _ _ a, All2.toMap f h b]; rfl
  | [], _ :: _, h => h.elim
  | _ :: _, [], h => h.elim
end
/-! ### kinds of values -/
def tV : Ty V := ⟨fun _ v x => v = x, fun _ h => h⟩
def tInt : Ty Int := ⟨fun _ v x => v = .int x, fun _ h => h⟩
def tBl : Ty Bool := ⟨fun _ v x => v = .bl x, fun _ h => h⟩
def tSt : Ty Str := ⟨fun _ v x => v = .str x, fun _ h => h⟩
def tRf : Ty Addr := ⟨fun _ v x => v = .ref x, fun _ h => h⟩
def tNn : Ty Unit := ⟨fun _ v _ => v = .non, fun _ h => h⟩
theorem sqT_mono {K : PySem.W.Frag} {H H' : Hp} {a : Addr} {xs : List V} (e : Same H H') (h : SqT K H a xs) : SqT K H' a xs := by
  rcases h with (h | ⟨o, h⟩) | h
  · exact .inl (.inl (e _ _ h))
  · exact .inl (.inr ⟨o, e _ _ h⟩)
  · exact .inr h
def tFr (K : PySem.W.Frag) : Ty Rat := ⟨fun H v x => ∃ p, v = .ref p ∧ SqT K H p [.int x.num, .int (x.den : Int)], fun e ⟨p, h, g⟩ => ⟨p, h, sqT_mono e g⟩⟩
def tPr (K : PySem.W.Frag) {α β : Type} (t : Ty α) (u : Ty β) : Ty (α × β) := ⟨fun H v x => ∃ p a b, v = .ref p ∧ SqT K H p [a, b] ∧ t.r H a x.1 ∧ u.r H b x.2, fun e ⟨p, a, b, h, g, h1, h2⟩ => ⟨p, a, b, h, sqT_mono e g, t.mono e h1, u.mono e h2⟩⟩
/-- a tuple of such and such -/
def tTp (K : PySem.W.Frag) (α : Type) (fs : α → List SF) : Ty α := ⟨fun H v x => ∃ p vs, v = .ref p ∧ SqT K H p vs ∧ Fits H (fs x) vs, fun e ⟨p, vs, h, g, h1⟩ => ⟨p, vs, h, sqT_mono e g, h1.mono e⟩⟩
def tLs (K : PySem.W.Frag) {α : Type} (t : Ty α) : Ty (List α) := ⟨fun H v xs => ∃ p vs, v = .ref p ∧ H p = some (.lst vs) ∧ All2 (t.r H) vs xs, fun e ⟨p, vs, h, g, h1⟩ => ⟨p, vs, h, e _ _ g, All2.mono (fun _ _ => t.mono e) h1⟩⟩
def tSc (K : PySem.W.Frag) : Ty (List Int) := ⟨fun H v xs => ∃ p, v = .ref p ∧ SqL K H p (xs.map V.int), fun e ⟨p, h, g⟩ => ⟨p, h, e.seq g⟩⟩
def cLs {α : Type} (t : Ty α) (xs : List α) : CF := ⟨fun H o => ∃ vs, o = .lst vs ∧ All2 (t.r H) vs xs, fun e ⟨vs, h, g⟩ => ⟨vs, h, All2.mono (fun _ _ => t.mono e) g⟩⟩
/-! ### the judgements -/
def Ev {α : Type} (W : Wd) (te : TE) (t : Ty α) (x : α) : Prop := ∀ σ H, Ok W σ H → ∀ Q : VK, (∀ v H', Go1 W σ H H' → t.r (hid W.S H') v x → Q v H') → te σ H Q
def Et (W : Wd) (tt : TT) (b : Bool) : Prop := ∀ σ H, Ok W σ H → ∀ Q : Bool → Hp → Prop, (∀ H', Go1 W σ H H' → Q b H') → tt σ H Q
def Ea (W : Wd) (ta : TA) (fs : List SF) : Prop := ∀ σ H, Ok W σ H → ∀ Q : List V → Hp → Prop, (∀ vs H', Go1 W σ H H' → Fits (hid W.S H') fs vs → Q vs H') → ta σ H Q
/-- as Ev, of one of several values -/
def Evx {α : Type} (W : Wd) (te : TE) (t : Ty α) (P : α → Prop) : Prop := ∀ σ H, Ok W σ H → ∀ Q : VK, (∀ v x H', P x → Go1 W σ H H' → t.r (hid W.S H') v x → Q v H') → te σ H Q
theorem Ev.x {α : Type} {W : Wd} {te : TE} {t : Ty α} {x : α} {P : α → Prop} (h : Ev W te t x) (p : P x) : Evx W te t P := fun σ H o Q q => h σ H o Q fun v H' g r => q v x H' p g r
theorem Evx.ev {α : Type} {W : Wd} {te : TE} {t : Ty α} {x : α} (h : Evx W te t (fun y => y = x)) : Ev W te t x := fun σ H o Q q => h σ H o Q fun v y H' p g r => q v H' g (p ▸ r)
/-- a def that leaves all as it was but the things C, which keep what they promise -/
def spN {α β : Type} (C : α → List RS) (A : α → List SF) (w : Ty β) (pre : α → Prop) (post : α → β → Prop) : Sp := fun vs H Q _ => ∃ (S : List Addr) (x : α), (∀ a ∈ S, H a ≠ none) ∧ (fps (C x)).Nodup ∧ (∀ a, a ∈ fps (C x) → a ∈ S) ∧ RsAt (C x) S H ∧
  Fits (hid S H) (A x) vs ∧ pre x ∧ ∀ v y H', post x y → Bt (fps (C x)) H H' → (∀ a, a ∈ fps (C x) → H' a ≠ none) → RsAt (C x) S H' → w.r (hid S H') v y → Q v H'
def spP {α β : Type} (A : α → List SF) (w : Ty β) (pre : α → Prop) (f : α → β) : Sp := spN (fun _ => []) A w pre (fun x y => y = f x)
section
variable {α β γ : Type} {W : Wd} {K : PySem.W.Frag} {ta tb tc : TE} {t : Ty α} {u : Ty β} {x : α} {y : β} {tt uu : TT} {ar : TA} {fs : List SF} {i j : Int} {E : XK}
theorem ev_is {x' : α} (h : Ev W ta t x) (e : x = x') : Ev W ta t x' := e ▸ h
theorem ev_to {u : Ty β} {y : β} (h : Ev W ta t x) (e : ∀ H v, t.r H v x → u.r H v y) : Ev W ta u y := fun σ H o Q q => h σ H o Q fun v H' g r => q v H' g (e _ _ r)
theorem ev_var {n : Nat} (h : W.G[n]? = some (some (t.is x))) : Ev W (tVar n) t x := fun σ H o Q q => by
  obtain ⟨v, h1, h2⟩ := o.slots n _ h
  exact ⟨v, h1, q v H (Go1.refl o) h2⟩
theorem ev_c {v : V} : Ev W (tC v) tV v := fun σ H o Q q => q v H (Go1.refl o) rfl
theorem ev_int : Ev W (tC (.int i)) tInt i := fun σ H o Q q => q _ H (Go1.refl o) rfl
theorem ev_str {z : Str} : Ev W (tC (.str z)) tSt z := fun σ H o Q q => q _ H (Go1.refl o) rfl
theorem ev_bl {b : Bool} : Ev W (tC (.bl b)) tBl b := fun σ H o Q q => q _ H (Go1.refl o) rfl
theorem ev_non : Ev W (tC .non) tNn () := fun σ H o Q q => q _ H (Go1.refl o) rfl
/-- a constant of the written part -/
theorem ev_k {a : Addr} (h : ∀ H, t.r H (.ref a) x) : Ev W (tC (.ref a)) t x := fun σ H o Q q => q _ H (Go1.refl o) (h _)
theorem ev_add (ha : Ev W ta tInt i) (hb : Ev W tb tInt j) : Ev W (tOp (rI0 fun i j => .int (i + j)) ta tb) tInt (i + j) := fun σ H o Q q =>
  ha σ H o _ fun v H1 g1 r1 => hb σ H1 g1.ok _ fun v2 H2 g2 r2 => ⟨i, j, r1, r2, q _ H2 (g1.trans g2) rfl⟩
theorem ev_sub (ha : Ev W ta tInt i) (hb : Ev W tb tInt j) : Ev W (tOp (rI0 fun i j => .int (i - j)) ta tb) tInt (i - j) := fun σ H o Q q =>
  ha σ H o _ fun v H1 g1 r1 => hb σ H1 g1.ok _ fun v2 H2 g2 r2 => ⟨i, j, r1, r2, q _ H2 (g1.trans g2) rfl⟩
theorem ev_mul (ha : Ev W ta tInt i) (hb : Ev W tb tInt j) (k : IntMulOk i j) : Ev W (tOp (rI IntMulOk fun i j => .int (i * j)) ta tb) tInt (i * j) := fun σ H o Q q =>
  ha σ H o _ fun v H1 g1 r1 => hb σ H1 g1.ok _ fun v2 H2 g2 r2 => ⟨i, j, r1, r2, k, q _ H2 (g1.trans g2) rfl⟩
theorem ev_fdiv (ha : Ev W ta tInt i) (hb : Ev W tb tInt j) (k : CDivA i j) : Ev W (tOp (rI CDivA fun i j => .int (i.fdiv j)) ta tb) tInt (i.fdiv j) := fun σ H o Q q =>
  ha σ H o _ fun v H1 g1 r1 => hb σ H1 g1.ok _ fun v2 H2 g2 r2 => ⟨i, j, r1, r2, k, q _ H2 (g1.trans g2) rfl⟩
theorem ev_mod (ha : Ev W ta tInt i) (hb : Ev W tb tInt j) (k : 0 < j) : Ev W (tOp (rI (fun _ j => 0 < j) fun i j => .int (i % j)) ta tb) tInt (i % j) := fun σ H o Q q =>
  ha σ H o _ fun v H1 g1 r1 => hb σ H1 g1.ok _ fun v2 H2 g2 r2 => ⟨i, j, r1, r2, k, q _ H2 (g1.trans g2) rfl⟩
theorem ev_neg (ha : Ev W ta tInt i) : Ev W (tUn (rU fun i => .int (-i)) ta) tInt (-i) := fun σ H o Q q => ha σ H o _ fun v H1 g1 r1 => ⟨i, r1, q _ H1 g1 rfl⟩
/-- comparisons of ints, as values and as tests -/
theorem ev_cmp {g : Int → Int → Bool} (ha : Ev W ta tInt i) (hb : Ev W tb tInt j) : Ev W (tOp (rI0 fun i j => .bl (g i j)) ta tb) tBl (g i j) := fun σ H o Q q =>
  ha σ H o _ fun v H1 g1 r1 => hb σ H1 g1.ok _ fun v2 H2 g2 r2 => ⟨i, j, r1, r2, q _ H2 (g1.trans g2) rfl⟩
theorem et_cmp {g : Int → Int → Bool} (ha : Ev W ta tInt i) (hb : Ev W tb tInt j) : Et W (tTest (tOp (rI0 fun i j => .bl (g i j)) ta tb)) (g i j) := fun σ H o Q q =>
  ha σ H o _ fun v H1 g1 r1 => hb σ H1 g1.ok _ fun v2 H2 g2 r2 => ⟨i, j, r1, r2, _, rfl, q H2 (g1.trans g2)⟩
theorem et_of {b : Bool} (ha : Ev W ta tBl b) : Et W (tTest ta) b := fun σ H o Q q => ha σ H o _ fun v H1 g1 r1 => ⟨b, r1, q H1 g1⟩
theorem et_B {b : Bool} (ha : Ev W ta tBl b) : Et W (tB ta) b := fun σ H o Q q => ha σ H o _ fun v H1 g1 r1 => ⟨b, r1, q H1 g1⟩
theorem et_is {b c : Bool} (h : Et W tt b) (e : b = c) : Et W tt c := e ▸ h
theorem et_not {b : Bool} (h : Et W tt b) : Et W (tNot tt) (!b) := fun σ H o Q q => h σ H o _ fun H1 g1 => q H1 g1
theorem et_and {b c : Bool} (h : Et W tt b) (g : b = true → Et W uu c) : Et W (tAnd tt uu) (b && c) := fun σ H o Q q => h σ H o _ fun H1 g1 => by
  cases b with
  | true =>
    show uu σ H1 Q
    exact g rfl σ H1 g1.ok Q fun H2 g2 => q H2 (g1.trans g2)
  | false => exact q H1 g1
theorem et_or {b c : Bool} (h : Et W tt b) (g : b = false → Et W uu c) : Et W (tOr tt uu) (b || c) := fun σ H o Q q => h σ H o _ fun H1 g1 => by
  cases b with
  | true => exact q H1 g1
  | false =>
    show uu σ H1 Q
    exact g rfl σ H1 g1.ok Q fun H2 g2 => q H2 (g1.trans g2)
theorem ev_andV {b c : Bool} (h : Ev W ta tBl b) (g : b = true → Ev W tb tBl c) : Ev W (tAndV ta tb) tBl (b && c) := fun σ H o Q q => h σ H o _ fun v H1 g1 r1 => ⟨b, r1, by
  cases b with
  | true =>
    show tb σ H1 Q
    exact g rfl σ H1 g1.ok Q fun v H2 g2 r => q v H2 (g1.trans g2) r
  | false => exact q _ H1 g1 rfl⟩
theorem ev_orV {b c : Bool} (h : Ev W ta tBl b) (g : b = false → Ev W tb tBl c) : Ev W (tOrV ta tb) tBl (b || c) := fun σ H o Q q => h σ H o _ fun v H1 g1 r1 => ⟨b, r1, by
  cases b with
  | true => exact q _ H1 g1 rfl
  | false =>
    show tb σ H1 Q
    exact g rfl σ H1 g1.ok Q fun v H2 g2 r => q v H2 (g1.trans g2) r⟩
theorem ev_notV {b : Bool} (h : Ev W ta tBl b) : Ev W (tNotV ta) tBl (!b) := fun σ H o Q q => h σ H o _ fun v H1 g1 r1 => ⟨b, r1, q _ H1 g1 rfl⟩
theorem ev_if {b : Bool} (h : Et W tt b) (ha : b = true → Ev W ta t x) (hb : b = false → Ev W tb t x) : Ev W (tIf tt ta tb) t x := fun σ H o Q q => h σ H o _ fun H1 g1 => by
  cases b with
  | true =>
    show ta σ H1 Q
    exact ha rfl σ H1 g1.ok Q fun v H2 g2 r => q v H2 (g1.trans g2) r
  | false =>
    show tb σ H1 Q
    exact hb rfl σ H1 g1.ok Q fun v H2 g2 r => q v H2 (g1.trans g2) r
theorem ea_nil : Ea W tNil [] := fun σ H o Q q => q [] H (Go1.refl o) trivial
theorem ea_cons (ha : Ev W ta t x) (hr : Ea W ar fs) : Ea W (tCons ta ar) (t.is x :: fs) := fun σ H o Q q =>
  ha σ H o _ fun v H1 g1 r1 => hr σ H1 g1.ok _ fun vs H2 g2 r2 => q (v :: vs) H2 (g1.trans g2) ⟨t.mono g2.up r1, r2⟩
/-- a written tuple -/
theorem ev_tup {fs' : α → List SF} (h : Ea W ar fs) (e : fs' x = fs) (hl : fs.length ≤ sizeLine := by decide) : Ev W (tTup ar) (tTp K α fs') x := fun σ H o Q q =>
  h σ H o _ fun vs H1 g1 r1 => ⟨by rw [r1.length]; exact hl, fun p np => q _ _ (g1.trans (g1.ok.new np)) ⟨p, vs, rfl, SqT.of (by rw [hid_of (g1.ok.off np)]; exact upd_same), by rw [e]; exact r1.mono (g1.ok.new np).up⟩⟩
theorem ev_pr (ha : Ev W ta t x) (hb : Ev W tb u y) : Ev W (tTup (tCons ta (tCons tb tNil))) (tPr K t u) (x, y) := fun σ H o Q q =>
  ha σ H o _ fun v H1 g1 r1 => hb σ H1 g1.ok _ fun v2 H2 g2 r2 => ⟨by show 2 ≤ sizeLine; decide, fun p np => q _ _ ((g1.trans g2).trans (g2.ok.new np))
    ⟨p, v, v2, rfl, SqT.of (by rw [hid_of (g2.ok.off np)]; exact upd_same), t.mono (g2.up.trans (g2.ok.new np).up) r1, u.mono (g2.ok.new np).up r2⟩⟩
theorem ev_fst (h : Ev W ta (tPr K t u) (x, y)) : Ev W (tOp (rIxT K) ta (tC (.int 0))) t x := fun σ H o Q q =>
  h σ H o _ fun v H1 g1 ⟨p, a, b, e, s, r1, r2⟩ => ⟨p, [a, b], 0, a, e, rfl, sqT_mono hid_sub s, rfl, q a H1 g1 r1⟩
theorem ev_snd (h : Ev W ta (tPr K t u) (x, y)) : Ev W (tOp (rIxT K) ta (tC (.int 1))) u y := fun σ H o Q q =>
  h σ H o _ fun v H1 g1 ⟨p, a, b, e, s, r1, r2⟩ => ⟨p, [a, b], 1, b, e, rfl, sqT_mono hid_sub s, rfl, q b H1 g1 r2⟩
theorem ev_num {r : Rat} (h : Ev W ta (tFr K) r) : Ev W (tOp (rIxT K) ta (tC (.int 0))) tInt r.num := fun σ H o Q q =>
  h σ H o _ fun v H1 g1 ⟨p, e, s⟩ => ⟨p, _, 0, _, e, rfl, sqT_mono hid_sub s, rfl, q _ H1 g1 rfl⟩
theorem ev_den {r : Rat} (h : Ev W ta (tFr K) r) : Ev W (tOp (rIxT K) ta (tC (.int 1))) tInt (r.den : Int) := fun σ H o Q q =>
  h σ H o _ fun v H1 g1 ⟨p, e, s⟩ => ⟨p, _, 1, _, e, rfl, sqT_mono hid_sub s, rfl, q _ H1 g1 rfl⟩
/-- an item of a tuple -/
theorem ev_item {fs' : α → List SF} {n : Nat} {u : Ty β} {y : β} (h : Ev W ta (tTp K α fs') x) (e : (fs' x)[n]? = some (u.is y)) : Ev W (tOp (rIxT K) ta (tC (.int (n : Int)))) u y := fun σ H o Q q =>
  h σ H o _ fun v H1 g1 ⟨p, vs, ev, s, ft⟩ => by
    obtain ⟨z, hz, rz⟩ := ft.get e
    exact ⟨p, vs, n, z, ev, rfl, sqT_mono hid_sub s, atI_nat hz, q z H1 g1 rz⟩
/-- a fraction written as a pair -/
theorem ev_frac {p q : Int} {r : Rat} (ha : Ev W ta tInt p) (hb : Ev W tb tInt q) (hp : r.num = p) (hq : (r.den : Int) = q) : Ev W (tTup (tCons ta (tCons tb tNil))) (tFr K) r := fun σ H o Q k =>
  ha σ H o _ fun v H1 g1 r1 => hb σ H1 g1.ok _ fun v2 H2 g2 r2 => ⟨by show 2 ≤ sizeLine; decide, fun p np => k _ _ ((g1.trans g2).trans (g2.ok.new np)) ⟨p, rfl, SqT.of (by
    rw [hid_of (g2.ok.off np), upd_same, hp, hq]
    cases r1; cases r2; rfl)⟩⟩
/-- a list's item by its place -/
theorem ev_ixL {xs : List α} {n : Int} {t : Ty α} (h : Ev W ta (tLs K t) xs) (hb : Ev W tb tInt n) (e : atI xs n = some x) : Ev W (tOp (rIxL K) ta tb) t x := fun σ H o Q q =>
  h σ H o _ fun v H1 g1 r1 => hb σ H1 g1.ok _ fun v2 H2 g2 r2 => by
    obtain ⟨p, vs, ev, s, al⟩ := (tLs K t).mono g2.up r1
    have : ∃ z, atI vs n = some z ∧ t.r (hid W.S H2) z x := by
      unfold atI at e ⊢
      rw [al.length]
      cases c : ixN xs.length n with
      | none => rw [c] at e; cases e
      | some k =>
        rw [c] at e
        exact al.get e
    obtain ⟨z, hz, rz⟩ := this
    exact ⟨p, vs, n, z, ev, r2, (SqL.of (hid_sub _ _ s)), hz, q z H2 (g1.trans g2) rz⟩
/-- len of a list -/
theorem ev_len {xs : List α} {t : Ty α} (h : Ev W ta (tLs K t) xs) : Ev W (tCB (fun xs H Q => ∃ p ys, xs = [.ref p] ∧ (SqL K H p ys ∨ SqT K H p ys) ∧ Q (.int ys.length) H) (tCons ta tNil)) tInt (xs.length : Int) := fun σ H o Q q =>
  h σ H o _ fun v H1 g1 ⟨p, vs, ev, s, al⟩ => ⟨p, vs, by rw [ev], .inl ((SqL.of (hid_sub _ _ s))), q _ H1 g1 (by rw [al.length]; rfl)⟩
theorem ev_lenS {z : Str} (h : Ev W ta tSt z) (hl : z.length ≤ sizeLine) : Ev W (tCB (fun xs H Q => ∃ z : Str, xs = [.str z] ∧ z.length ≤ sizeLine ∧ Q (.int z.length) H) (tCons ta tNil)) tInt (z.length : Int) := fun σ H o Q q =>
  h σ H o _ fun v H1 g1 e => ⟨z, by rw [show v = .str z from e], hl, q _ H1 g1 rfl⟩
/-- list(xs) -/
theorem ev_list {xs : List α} {t : Ty α} (h : Ev W ta (tLs K t) xs) : Ev W (tCB (fun xs H Q => ∃ p ys, xs = [.ref p] ∧ (SqL K H p ys ∨ SqT K H p ys) ∧ ∀ l, H l = none → Q (.ref l) (upd H l (.lst ys))) (tCons ta tNil)) (tLs K t) xs := fun σ H o Q q =>
  h σ H o _ fun v H1 g1 ⟨p, vs, ev, s, al⟩ => ⟨p, vs, by rw [ev], .inl ((SqL.of (hid_sub _ _ s))), fun l nl => q _ _ (g1.trans (g1.ok.new nl)) ⟨l, vs, rfl, (by rw [hid_of (g1.ok.off nl)]; exact upd_same), All2.mono (fun _ _ => t.mono (g1.ok.new nl).up) al⟩⟩
theorem ev_abs (h : Ev W ta tInt i) : Ev W (tCB (fun xs H Q => ∃ i, xs = [.int i] ∧ Q (.int (if i < 0 then -i else i)) H) (tCons ta tNil)) tInt (if i < 0 then -i else i) := fun σ H o Q q =>
  h σ H o _ fun v H1 g1 e => ⟨i, by rw [show v = .int i from e], q _ H1 g1 rfl⟩
theorem ev_int1 (h : Ev W ta tInt i) : Ev W (tCB (fun xs H Q => (∃ i, xs = [.int i] ∧ Q (.int i) H) ∨ ∃ k, xs = [.bl k] ∧ Q (.int (if k then 1 else 0)) H) (tCons ta tNil)) tInt i := fun σ H o Q q =>
  h σ H o _ fun v H1 g1 e => .inl ⟨i, by rw [show v = .int i from e], q _ H1 g1 rfl⟩
theorem ev_strI (h : Ev W ta tInt i) (hi : i.natAbs.log2 < 1920) : Ev W (tCB (fun xs H Q => ∃ i : Int, xs = [.int i] ∧ i.natAbs.log2 < 1920 ∧ Q (.str (toString i)) H) (tCons ta tNil)) tSt (Str.ofString (toString i)) := fun σ H o Q q =>
  h σ H o _ fun v H1 g1 e => ⟨i, by rw [show v = .int i from e], hi, q _ H1 g1 rfl⟩
/-- a call of a def -/
theorem evx_call {C : γ → List RS} {A : γ → List SF} {w : Ty β} {pre : γ → Prop} {post : γ → β → Prop} {z : γ} (h : Ea W ar (A z)) (hp : pre z) (hC : (C z).Sublist W.L := by first | exact List.nil_sublist _ | exact List.Sublist.refl _ | exact List.singleton_sublist.mpr (by simp) | simp) :
    Evx W (tCall (spN C A w pre post) [] E ar) w (post z) := fun σ H o Q q => h σ H o _ fun vs H1 g1 r1 => by
  have sub : ∀ a, a ∈ fps (C z) → a ∈ W.S := fun a m => by
    obtain ⟨r, m1, m2⟩ := of_fps m
    exact (g1.ok.own a (mem_fps (hC.subset m1) m2)).1
  refine ⟨W.S, z, g1.ok.al, ?_, sub, fun r m => g1.ok.at_ r (hC.subset m), by rw [List.append_nil]; exact r1, hp, fun v y H2 py b al c r => ?_⟩
  · exact (fps_sub hC).nodup g1.ok.nod
  · exact q v y H2 py (g1.trans (g1.ok.after (fun r m => hC.subset m) b al c)) r
theorem ev_call {A : γ → List SF} {w : Ty β} {pre : γ → Prop} {f : γ → β} {z : γ} (h : Ea W ar (A z)) (hp : pre z) : Ev W (tCall (spP A w pre f) [] E ar) w (f z) := (evx_call h hp).ev
end
end Cs
set_option maxHeartbeats 4000000
namespace Cs
open PySem PySem.Spec PyProof.Rows L2
/-! ### statements -/
def Go (W : Wd) (ts : TS) (D : Ends) : Prop := ∀ σ H, Ok W σ H → ts D σ H
def Wd.at (W : Wd) (i : Nat) (f : SF) : Wd := { W with G := W.G.set i (some f) }
def Wd.no (W : Wd) (i : Nat) : Wd := { W with G := W.G.set i none }
/-- what holds in W holds in W' -/
def Wk (W W' : Wd) : Prop := ∀ σ H, Ok W σ H → Ok W' σ H
theorem Wk.refl {W : Wd} : Wk W W := fun _ _ h => h
theorem Wk.trans {W W1 W2 : Wd} (a : Wk W W1) (b : Wk W1 W2) : Wk W W2 := fun σ H h => b σ H (a σ H h)
/-- slots and facts are forgotten -/
theorem Wk.of {H0 : Hp} {M S : List Addr} {L : List RS} {F F' : List FF} {G G' : List (Option SF)} (hl : G.length = G'.length) (h : ∀ (i : Nat) (f : SF), G'[i]? = some (some f) → G[i]? = some (some f)) (hF : ∀ f, f ∈ F' → f ∈ F) : Wk ⟨H0, M, S, L, F, G⟩ ⟨H0, M, S, L, F', G'⟩ := fun σ H o =>
  ⟨o.nod, o.own, o.at_, o.ms, o.al, o.bt, o.len.trans hl, fun f m => o.facts f (hF f m), fun i f g => o.slots i f (h i f g)⟩
section
variable {α β γ : Type} {W W' : Wd} {K : PySem.W.Frag} {ta tb tc : TE} {t : Ty α} {u : Ty β} {x : α} {y : β} {tt uu : TT} {ar : TA} {fs : List SF} {ts us : TS} {D : Ends} {σ : L2.St} {H : Hp} {i : Nat}
theorem go_wk (w : Wk W W') (h : Go W' ts D) : Go W ts D := fun σ H o => h σ H (w σ H o)
theorem ev_wk (w : Wk W W') (up : W.S = W'.S) (hb : Wk W' W) (h : Ev W' ta t x) : Ev W ta t x := fun σ H o Q q => h σ H (w σ H o) Q fun v H' g r => q v H' ⟨hb _ _ g.ok, by rw [up]; exact g.up⟩ (by rw [up]; exact r)
theorem Ok.put {v : V} {f : SF} (o : Ok W σ H) (h : f.p (hid W.S H) v) : Ok (W.at i f) (σ.set i (some v)) H :=
  ⟨o.nod, o.own, o.at_, o.ms, o.al, o.bt, by show (σ.set i (some v)).length = (W.G.set i (some f)).length; rw [List.length_set, List.length_set]; exact o.len, o.facts, fun j g q => by
    have q : (W.G.set i (some f))[j]? = some (some g) := q
    by_cases e : i = j
    · subst e
      rw [List.getElem?_set] at q
      by_cases l : i < W.G.length
      · rw [if_pos rfl, if_pos l] at q
        obtain rfl : f = g := Option.some.inj (Option.some.inj q)
        exact ⟨v, by rw [List.getElem?_set, if_pos rfl, if_pos (by rw [o.len]; exact l)], h⟩
      · rw [if_pos rfl, if_neg l] at q; cases q
    · rw [List.getElem?_set, if_neg e] at q
      obtain ⟨w, h1, h2⟩ := o.slots j g q
      exact ⟨w, by rw [List.getElem?_set, if_neg e]; exact h1, h2⟩⟩
theorem Ok.know {f : FF} (o : Ok W σ H) (h : f.p (hid W.S H)) : Ok { W with F := f :: W.F } σ H :=
  ⟨o.nod, o.own, o.at_, o.ms, o.al, o.bt, o.len, fun g m => by
    rcases List.mem_cons.mp m with m | m
    · rw [m]; exact h
    · exact o.facts g m, o.slots⟩
theorem go_set (h : Ev W ta t x) (k : Go (W.at i (t.is x)) us D) : Go W (tSeq (tAsg ta (gName i)) us) D := fun σ H o => h σ H o _ fun v H1 g r => k _ _ (g.ok.put r)
theorem go_set1 (h : Ev W ta t x) (k : ∀ σ H, Ok (W.at i (t.is x)) σ H → D.nx σ H) : Go W (tAsg ta (gName i)) D := fun σ H o => h σ H o _ fun v H1 g r => k _ _ (g.ok.put r)
/-- the value is known, some further facts of it too -/
theorem go_seq (h : Go W ts { D with nx := us D }) : Go W (tSeq ts us) D := h
theorem go_next (h : ∀ σ H, Ok W σ H → D.nx σ H) : Go W tNext D := h
theorem go_if {b : Bool} (h : Et W tt b) (h1 : b = true → Go W ts D) (h2 : b = false → Go W us D) : Go W (tIfS tt ts us) D := fun σ H o => h σ H o _ fun H1 g => by
  cases b with
  | true => exact h1 rfl σ H1 g.ok
  | false => exact h2 rfl σ H1 g.ok
/-- if .. : return | raise (and then go on) -/
theorem go_ifr {b : Bool} {vs : TS} (h : Et W tt b) (h1 : b = true → Go W ts { D with nx := vs D }) (h2 : b = false → Go W vs D) : Go W (tSeq (tIfS tt ts tNext) vs) D := go_if h h1 h2
theorem go_ret (h : Ev W ta t x) (k : ∀ σ v H, Ok W σ H → t.r (hid W.S H) v x → D.rt v H) : Go W (tRet ta) D := fun σ H o => h σ H o _ fun v H1 g r => k σ v H1 g.ok r
theorem go_drop (h : Ev W ta t x) (k : Go W us D) : Go W (tSeq (tDrop ta) us) D := fun σ H o => h σ H o _ fun v H1 g r => k _ _ g.ok
/-- what a promise wants at its end -/
def Rt (C : List RS) (S : List Addr) (H : Hp) (w : Ty β) (P : β → Prop) (Q : VK) : Prop := ∀ v y H', P y → Bt (fps C) H H' → (∀ a, a ∈ fps C → H' a ≠ none) → RsAt C S H' → w.r (hid S H') v y → Q v H'
theorem Ok.rsAt {C : List RS} {S : List Addr} (o : Ok W σ H) (hC : ∀ c ∈ C, c ∈ W.L) (hS : ∀ a, a ∈ S → a ∈ W.S) : RsAt C S H := fun r m => r.mono (hid_less hS) (o.at_ r (hC r m))
theorem go_endx {C : List RS} {S : List Addr} {w : Ty β} {P : β → Prop} {Q : VK} (h : Evx W ta w P) (out : Rt C S W.H0 w P Q) (hM : W.M = fps C := by rfl) (hC : ∀ c ∈ C, c ∈ W.L := by first | (intro c z; cases z) | (intro c z; exact z) | simp) (hS : ∀ a, a ∈ S → a ∈ W.S := by first | (intro a z; exact z) | (intro a z; exact List.mem_cons_of_mem _ z) | (intro a z; exact List.mem_cons_of_mem _ (List.mem_cons_of_mem _ z)) | simp) (hD : D.rt = Q := by rfl) : Go W (tRet ta) D := fun σ H o =>
  h σ H o _ fun v y H1 p g r => by
    rw [hD]
    exact out v y H1 p (by rw [← hM]; exact g.ok.bt) (fun a m => g.ok.al a (g.ok.ms a (by rw [hM]; exact m))) (g.ok.rsAt hC hS) (w.mono (hid_less hS) r)
theorem go_end {C : List RS} {S : List Addr} {w : Ty β} {P : β → Prop} {Q : VK} (h : Ev W ta w y) (out : Rt C S W.H0 w P Q) (hp : P y := by rfl) (hM : W.M = fps C := by rfl) (hC : ∀ c ∈ C, c ∈ W.L := by first | (intro c z; cases z) | (intro c z; exact z) | simp) (hS : ∀ a, a ∈ S → a ∈ W.S := by first | (intro a z; exact z) | (intro a z; exact List.mem_cons_of_mem _ z) | (intro a z; exact List.mem_cons_of_mem _ (List.mem_cons_of_mem _ z)) | simp) (hD : D.rt = Q := by rfl) : Go W (tRet ta) D :=
  go_endx (h.x hp) out hM hC hS hD
/-! ### a def keeps its promise -/
theorem ok_N {P : Program} {w : World} {mg : Str → Option Value} {base : Heap} {nm qual : Str} {st : Stmt} {f : Addr} {fd : FuncData} {N ps : List Str} {k : Nat} {C : α → List RS} {A : α → List SF} {wt : Ty β} {pre : α → Prop} {post : α → β → Prop}
    (F : Fun K nm qual st f fd) (S : FnScope N ps (defScope st)) (hl : ∀ x, (A x).length = ps.length)
    (body : ∀ (cdv : Value) (A' : Around) (outer : List Env) (s : Shared) (H0 : Hp) (S : List Addr) (x : α) (Q : VK) (E : XK), Room k (A'.deeper (envOfC qual (defScope st) s.heap.objs.size f cdv)) → pre x → Rt (C x) S H0 wt (post x) Q →
      ∃ t, PSs (cxOf CX0 P w K mg base N qual (defScope st) f cdv A' outer s H0 E).nox (defBody st) t ∧ Go ⟨H0, fps (C x), S, C x, [], (A x).map some ++ List.replicate (N.length - ps.length) none⟩ t { nx := fun _ H' => Q .non H', rt := Q }) :
    FnOk P w K mg base CX0 (k + 1) f fd ps (spN C A wt pre post) := by
  refine F.ok S (fun vs H Q E h => ?_) (fun cdv A' outer s H vs Q E hr h => ?_)
  · obtain ⟨S', x, _, _, _, _, ft, _⟩ := h
    rw [ft.length, hl]
  · obtain ⟨S', x, al, nd, sub, cc, ft, hp, out⟩ := h
    obtain ⟨t, h1, h2⟩ := body cdv A' outer s H S' x Q E hr hp (fun v y H' => out v y H')
    refine ⟨t, h1, h2 _ _ ⟨nd, fun a m => ⟨sub a m, .inl m⟩, cc, sub, al, Bt.refl, ?_, (fun f m => nomatch m), fun i f' q => ?_⟩⟩
    · show (L2.start N vs).length = ((A x).map some ++ List.replicate (N.length - ps.length) none).length
      unfold L2.start
      have e1 := ft.length
      have e2 := hl x
      simp only [List.length_append, List.length_map, List.length_replicate]
      omega
    · have q : ((A x).map some ++ List.replicate (N.length - ps.length) none)[i]? = some (some f') := q
      unfold L2.start
      by_cases l : i < (A x).length
      · rw [List.getElem?_append_left (by simpa using l), List.getElem?_map] at q
        cases c : (A x)[i]? with
        | none => rw [c] at q; cases q
        | some z =>
          rw [c] at q
          obtain rfl : z = f' := Option.some.inj (Option.some.inj q)
          obtain ⟨v, hv, hz⟩ := ft.get c
          exact ⟨v, by rw [List.getElem?_append_left (by simpa [ft.length] using l), List.getElem?_map, hv]; rfl, hz⟩
      · rw [List.getElem?_append_right (by simpa using l)] at q
        have := List.mem_of_getElem? q
        rw [List.mem_replicate] at this
        exact absurd this.2 (by simp)
theorem ok_P {P : Program} {w : World} {mg : Str → Option Value} {base : Heap} {nm qual : Str} {st : Stmt} {f : Addr} {fd : FuncData} {N ps : List Str} {k : Nat} {A : α → List SF} {wt : Ty β} {pre : α → Prop} {g : α → β}
    (F : Fun K nm qual st f fd) (S : FnScope N ps (defScope st)) (hl : ∀ x, (A x).length = ps.length)
    (body : ∀ (cdv : Value) (A' : Around) (outer : List Env) (s : Shared) (H0 : Hp) (S : List Addr) (x : α) (Q : VK) (E : XK), Room k (A'.deeper (envOfC qual (defScope st) s.heap.objs.size f cdv)) → pre x → Rt [] S H0 wt (fun y => y = g x) Q →
      ∃ t, PSs (cxOf CX0 P w K mg base N qual (defScope st) f cdv A' outer s H0 E).nox (defBody st) t ∧ Go ⟨H0, [], S, [], [], (A x).map some ++ List.replicate (N.length - ps.length) none⟩ t { nx := fun _ H' => Q .non H', rt := Q }) :
    FnOk P w K mg base CX0 (k + 1) f fd ps (spP A wt pre g) := ok_N F S hl body
/-! ### loops -/
/-- the list at p -/
def ffL (K : PySem.W.Frag) (t : Ty α) (p : Addr) (vs : List V) (xs : List α) : FF := ⟨fun H => SqL K H p vs ∧ All2 (t.r H) vs xs, fun e h => ⟨e.seq h.1, All2.mono (fun _ _ => t.mono e) h.2⟩⟩
/-- for x in xs: the world at each turn by a parameter -/
theorem go_forL {ι : Type} {xs : List α} (h : Ev W ta (tLs K t) xs) (J : Nat → ι → List RS × List (Option SF)) (Pv : Nat → ι → Prop) (c0 : ι) (p0 : Pv 0 c0) (w0 : Wk W { W with L := (J 0 c0).1, G := (J 0 c0).2 })
    (hs : ∀ k c x (F : List FF), (∀ f ∈ W.F, f ∈ F) → xs[k]? = some x → Pv k c → Go (Wd.at ⟨W.H0, W.M, W.S, (J k c).1, F, (J k c).2⟩ i (t.is x)) ts
      { D with nx := fun σ H => ∃ c', Pv (k + 1) c' ∧ Ok ⟨W.H0, W.M, W.S, (J (k + 1) c').1, F, (J (k + 1) c').2⟩ σ H, ct := fun σ H => ∃ c', Pv (k + 1) c' ∧ Ok ⟨W.H0, W.M, W.S, (J (k + 1) c').1, F, (J (k + 1) c').2⟩ σ H, bk := D.nx })
    (hd : ∀ c, Pv xs.length c → ∀ σ H, Ok { W with L := (J xs.length c).1, G := (J xs.length c).2 } σ H → D.nx σ H) :
    Go W (tFor (iList K ta) (gName i) ts) D := fun σ H o => by
  refine h σ H o _ fun v H1 g r => ?_
  obtain ⟨p, vs, rfl, hq, al⟩ := r
  refine ⟨p, rfl, ⟨vs, SqL.of (hid_sub _ _ hq)⟩, ?_⟩
  have hlen := al.length
  refine for_list (K := K) (a := p) (xs := vs) (fun k σ' H' => ∃ c, Pv k c ∧ Ok ⟨W.H0, W.M, W.S, (J k c).1, ffL K t p vs xs :: W.F, (J k c).2⟩ σ' H') ⟨c0, p0, Ok.know (w0 _ _ g.ok) ⟨SqL.of hq, al⟩⟩ (fun k σ' H' _ ⟨c, _, o'⟩ => hid_sub.seq (o'.facts (ffL K t p vs xs) (List.mem_cons_self ..)).1) ?_ ?_
  · rintro k w σ' H' hw ⟨c, pc, o'⟩
    obtain ⟨_, al'⟩ := o'.facts (ffL K t p vs xs) (List.mem_cons_self ..)
    obtain ⟨x, hx, rx⟩ := al'.getV hw
    exact hs k c x (ffL K t p vs xs :: W.F) (fun f m => List.mem_cons_of_mem _ m) hx pc _ _ (o'.put rx)
  · rintro σ' H' ⟨c, pc, o'⟩
    rw [hlen] at pc o'
    exact hd c pc _ _ ⟨o'.nod, o'.own, o'.at_, o'.ms, o'.al, o'.bt, o'.len, fun f m => o'.facts f (List.mem_cons_of_mem _ m), o'.slots⟩
/-- for x in range(n) -/
theorem go_range {ι : Type} {n : Int} (h : Ev W ta tInt n) (h1 : -(2 ^ 62) ≤ n) (h2 : n < 2 ^ 62) (J : Nat → ι → List RS × List (Option SF)) (Pv : Nat → ι → Prop) (c0 : ι) (p0 : Pv 0 c0) (w0 : Wk W { W with L := (J 0 c0).1, G := (J 0 c0).2 })
    (hs : ∀ k c, k < n.toNat → Pv k c → Go (Wd.at ⟨W.H0, W.M, W.S, (J k c).1, W.F, (J k c).2⟩ i (tInt.is (k : Int))) ts
      { D with nx := fun σ H => ∃ c', Pv (k + 1) c' ∧ Ok ⟨W.H0, W.M, W.S, (J (k + 1) c').1, W.F, (J (k + 1) c').2⟩ σ H, ct := fun σ H => ∃ c', Pv (k + 1) c' ∧ Ok ⟨W.H0, W.M, W.S, (J (k + 1) c').1, W.F, (J (k + 1) c').2⟩ σ H, bk := D.nx })
    (hd : ∀ c, Pv n.toNat c → ∀ σ H, Ok { W with L := (J n.toNat c).1, G := (J n.toNat c).2 } σ H → D.nx σ H) :
    Go W (tFor (iRng1 (tCons ta tNil)) (gName i) ts) D := fun σ H o => by
  refine h σ H o _ fun v H1 g r => ?_
  refine ⟨n, by rw [show v = .int n from r], h1, h2, ?_⟩
  refine for_range (lo := 0) (n := n.toNat) (fun k σ' H' => ∃ c, Pv k c ∧ Ok ⟨W.H0, W.M, W.S, (J k c).1, W.F, (J k c).2⟩ σ' H') ⟨c0, p0, w0 _ _ g.ok⟩ ?_ ?_
  · rintro k σ' H' hk ⟨c, pc, o'⟩
    exact hs k c hk pc _ _ (o'.put (v := .int (0 + (k : Int))) (by show V.int (0 + (k : Int)) = V.int (k : Int); rw [Int.zero_add]))
  · rintro σ' H' ⟨c, pc, o'⟩
    exact hd c pc _ _ o'
end
end Cs
set_option maxHeartbeats 4000000
namespace Cs
open PySem PySem.Spec PyProof.Rows L2
/-! ### lists that are made: comprehensions, appends -/
theorem wipe_set {σ : L2.St} {i : Nat} {x : Option V} : ∀ {vs : List Nat}, i ∈ vs → wipe (σ.set i x) vs = wipe σ vs
  | v :: vs, h => by
    unfold wipe
    by_cases e : i ∈ vs
    · rw [wipe_set e]
    · have : i = v := by
        rcases List.mem_cons.mp h with h | h
        · exact h
        · exact absurd h e
      subst this
      have key : ∀ (ws : List Nat), i ∉ ws → wipe (σ.set i x) ws = (wipe σ ws).set i x := by
        intro ws
        induction ws with
        | nil => intro _; rfl
        | cons w ws ih =>
          intro hn
          have h1 : i ≠ w := fun z => hn (z ▸ List.mem_cons_self ..)
          have h2 : i ∉ ws := fun z => hn (List.mem_cons_of_mem _ z)
          show (wipe (σ.set i x) ws).set w none = ((wipe σ ws).set w none).set i x
          rw [ih h2, List.set_comm _ _ (fun z => h1 z)]
      rw [key vs e, List.set_set]
theorem wipe_twice (σ : L2.St) (vs : List Nat) : wipe (wipe σ vs) vs = wipe σ vs := by
  have key : ∀ (ws us : List Nat), (∀ w ∈ ws, w ∈ us) → wipe (wipe σ ws) us = wipe σ us := by
    intro ws
    induction ws with
    | nil => intro us _; rfl
    | cons w ws ih =>
      intro us h
      show wipe ((wipe σ ws).set w none) us = _
      rw [wipe_set (h w (List.mem_cons_self ..)), ih us fun z hz => h z (List.mem_cons_of_mem _ hz)]
  exact key vs vs fun _ h => h
def wipeG (G : List (Option SF)) : List Nat → List (Option SF)
  | [] => G
  | v :: vs => (wipeG G vs).set v none
theorem wipeG_length (G : List (Option SF)) : ∀ vs : List Nat, (wipeG G vs).length = G.length
  | [] => rfl
  | v :: vs => by unfold wipeG; rw [List.length_set, wipeG_length G vs]
section
variable {α β γ : Type} {W W' : Wd} {K : PySem.W.Frag} {ta tb tc : TE} {t : Ty α} {u : Ty β} {x : α} {y : β} {tt uu : TT} {ar : TA} {fs : List SF} {ts us : TS} {D : Ends} {σ σ' : L2.St} {H H' : Hp} {i : Nat}
theorem Ok.none {j : Nat} (o : Ok W σ H) : Ok { W with G := W.G.set j Option.none } (σ.set j Option.none) H :=
  ⟨o.nod, o.own, o.at_, o.ms, o.al, o.bt, by show (σ.set j Option.none).length = (W.G.set j Option.none).length; rw [List.length_set, List.length_set]; exact o.len, o.facts, fun k g q => by
    have q : (W.G.set j Option.none)[k]? = some (some g) := q
    by_cases e : j = k
    · subst e
      by_cases l : j < W.G.length
      · rw [List.getElem?_set, if_pos rfl, if_pos l] at q; cases q
      · rw [List.getElem?_set, if_pos rfl, if_neg l] at q; cases q
    · rw [List.getElem?_set, if_neg e] at q
      obtain ⟨w, h1, h2⟩ := o.slots k g q
      exact ⟨w, by rw [List.getElem?_set, if_neg e]; exact h1, h2⟩⟩
theorem Ok.wipe : ∀ {vs : List Nat}, Ok W σ H → Ok { W with G := wipeG W.G vs } (L2.wipe σ vs) H
  | [], o => o
  | v :: vs, o => Ok.none (W := { W with G := wipeG W.G vs }) (Ok.wipe (vs := vs) o)
/-- the same world, other slots: what was known of the slots stays -/
theorem Ok.swap {G' : List (Option SF)} (o : Ok W σ H) (o' : Ok { W with G := G' } σ' H') (up : Same (hid W.S H) (hid W.S H')) : Ok W σ H' :=
  ⟨o.nod, o.own, o'.at_, o.ms, o'.al, o'.bt, o.len, o'.facts, fun i f q => by
    obtain ⟨v, h1, h2⟩ := o.slots i f q
    exact ⟨v, h1, f.mono up h2⟩⟩
/-- all that is to be read in H1 -/
def ffS (G : Hp) : FF := ⟨fun H => Same G H, fun e h => h.trans e⟩
/-- a thing is read only from now on -/
theorem Ok.drop {r : RS} {N S : List Addr} {L : List RS} {H0 : Hp} {M : List Addr} {F : List FF} {G : List (Option SF)} (o : Ok ⟨H0, M, N ++ S, r :: L, F, G⟩ σ H) (hS : ∀ a, a ∈ fps L → a ∈ S) (hM : ∀ a ∈ M, a ∈ S) : Ok ⟨H0, M, S, L, F, G⟩ σ H := by
  have up : Same (hid (N ++ S) H) (hid S H) := hid_less fun a h => List.mem_append_right _ h
  have nd : (fps ([r] ++ L)).Nodup := o.nod
  exact ⟨(nodup_app.mp nd).2.1, fun a m => ⟨hS a m, (o.own a (by obtain ⟨q, m1, m2⟩ := of_fps m; exact mem_fps (List.mem_cons_of_mem _ m1) m2)).2⟩, fun q m => q.mono up (o.at_ q (List.mem_cons_of_mem _ m)), hM, fun a m => o.al a (List.mem_append_right _ m), o.bt, o.len, fun f m => f.mono up (o.facts f m), fun j f q => by
      obtain ⟨v, h1, h2⟩ := o.slots j f q
      exact ⟨v, h1, f.mono up h2⟩⟩
theorem ok_sub {W : Wd} (o : Ok W σ H) : ∀ a, a ∈ fps W.L → a ∈ W.S := fun a m => (o.own a m).1
theorem filterMap_snoc (p : α → Bool) (g : α → β) (xs : List α) (x : α) : ((xs ++ [x]).filter p).map g = (xs.filter p).map g ++ (if p x = true then [g x] else []) := by
  rw [List.filter_append, List.map_append]
  congr 1
  cases h : p x <;> simp [h]
theorem take_snoc {xs : List α} {k : Nat} {x : α} (h : xs[k]? = some x) : xs.take (k + 1) = xs.take k ++ [x] := by
  rw [List.take_add_one, h]; rfl
/-- the world of a comprehension's element -/
def Wd.el (W : Wd) (D : Addr) (φ : CF) (F : List FF) (vs : List Nat) : Wd := ⟨W.H0, W.M, D :: W.S, cell D φ :: W.L, F, wipeG W.G vs⟩
/-- [te for x in ta if tt] -/
theorem ev_lc {xs : List α} {p : α → Bool} {g : α → β} {vs : List Nat} (h : Ev W ta (tLs K t) xs) (hi : i ∈ vs) (hl : xs.length < sizeLine)
    (ht : ∀ D φ F x, (∀ f ∈ W.F, f ∈ F) → x ∈ xs → Et ((W.el D φ F vs).at i (t.is x)) tt (p x))
    (he : ∀ D φ F x, (∀ f ∈ W.F, f ∈ F) → x ∈ xs → p x = true → Ev ((W.el D φ F vs).at i (t.is x)) tb u (g x)) : Ev W (tLc (iList K ta) (gName i) tt tb vs) (tLs K u) ((xs.filter p).map g) := fun σ H o Q q => by
  refine h σ H o _ fun v H1 g1 r => ?_
  obtain ⟨a, ws, rfl, hq, al⟩ := r
  refine ⟨a, rfl, ⟨ws, SqL.of (hid_sub _ _ hq)⟩, fun D nD => ?_⟩
  have hlen := al.length
  let Wk : Nat → Wd := fun k => ⟨W.H0, W.M, D :: W.S, cell D (cLs u (((xs.take k).filter p).map g)) :: W.L, ffL K t a ws xs :: ffS (hid W.S H1) :: W.F, W.G⟩
  have start : Ok (Wk 0) σ (upd H1 D (.lst [])) := by
    obtain ⟨o1, up⟩ := g1.ok.cell (ψ := cLs u ([] : List β)) nD ⟨[], rfl, trivial⟩
    exact Ok.know (Ok.know o1 (f := ffS (hid W.S H1)) up) (f := ffL K t a ws xs) ⟨SqL.of (up _ _ hq), All2.mono (fun _ _ => t.mono up) al⟩
  have len : ∀ k, (((xs.take k).filter p).map g).length ≤ xs.length := fun k => by
    rw [List.length_map]
    exact Nat.le_trans (List.length_filter_le ..) (by rw [List.length_take]; omega)
  refine lc_list (K := K) (a := a) (xs := ws) (fun k H' => Ok (Wk k) σ H') start (fun k H' _ o' => hid_sub.seq (o'.facts (ffL K t a ws xs) (List.mem_cons_self ..)).1) ?_ ?_
  · rintro k w H' hw o'
    obtain ⟨_, al'⟩ := o'.facts (ffL K t a ws xs) (List.mem_cons_self ..)
    obtain ⟨x, hx, rx⟩ := al'.getV hw
    have xm := List.mem_of_getElem? hx
    refine ⟨by rw [wipe_set hi, wipe_twice], ?_⟩
    have oe : Ok (((W.el D (cLs u (((xs.take k).filter p).map g)) (ffL K t a ws xs :: ffS (hid W.S H1) :: W.F) vs).at i (t.is x))) ((wipe σ vs).set i (some w)) H' := (Ok.wipe (vs := vs) o').put rx
    have sub : ∀ f ∈ W.F, f ∈ ffL K t a ws xs :: ffS (hid W.S H1) :: W.F := fun f m => List.mem_cons_of_mem _ (List.mem_cons_of_mem _ m)
    refine ht D _ _ x sub xm _ _ oe _ fun H2 g2 => ?_
    cases hp : p x with
    | false =>
      refine iteF ?_
      have o2 : Ok (Wk k) σ H2 := Ok.swap (W := Wk k) o' (Ok.swap (W := { Wk k with G := wipeG W.G vs }) (Ok.wipe (vs := vs) o') g2.ok g2.up) g2.up
      show Ok (Wk (k + 1)) σ H2
      have e : ((xs.take (k + 1)).filter p).map g = ((xs.take k).filter p).map g := by rw [take_snoc hx, filterMap_snoc, hp]; simp
      show Ok ⟨W.H0, W.M, D :: W.S, cell D (cLs u (((xs.take (k + 1)).filter p).map g)) :: W.L, ffL K t a ws xs :: ffS (hid W.S H1) :: W.F, W.G⟩ σ H2
      rw [e]
      exact o2
    | true =>
      refine iteT ?_
      refine he D _ _ x sub xm hp _ _ g2.ok _ fun y H3 g3 ry => ?_
      have g23 := g2.trans g3
      have o3 : Ok (Wk k) σ H3 := Ok.swap (W := Wk k) o' (Ok.swap (W := { Wk k with G := wipeG W.G vs }) (Ok.wipe (vs := vs) o') g23.ok g23.up) g23.up
      obtain ⟨ob, hob, us, rfl, hus⟩ := o3.at_ _ (List.mem_cons_self ..)
      refine ⟨us, hob, ?_, ?_⟩
      · rw [hus.length]
        exact Nat.lt_of_le_of_lt (len k) hl
      · have e : ((xs.take (k + 1)).filter p).map g = ((xs.take k).filter p).map g ++ [g x] := by rw [take_snoc hx, filterMap_snoc, hp]; simp
        have := (o3.write (ψ := cLs u (((xs.take (k + 1)).filter p).map g)) (o := .lst (us ++ [y])) rfl ⟨_, rfl, by rw [e]; exact hus.app (ws := [y]) (ys := [g x]) ⟨ry, trivial⟩⟩).ok
        exact this
  · intro H' o'
    have e : xs.take ws.length = xs := by rw [hlen, List.take_length]
    have o2 : Ok ⟨W.H0, W.M, D :: W.S, cell D (cLs u ((xs.filter p).map g)) :: W.L, ffL K t a ws xs :: ffS (hid W.S H1) :: W.F, W.G⟩ σ H' := by
      have : Ok (Wk ws.length) σ H' := o'
      have e2 : Wk ws.length = ⟨W.H0, W.M, D :: W.S, cell D (cLs u ((xs.filter p).map g)) :: W.L, ffL K t a ws xs :: ffS (hid W.S H1) :: W.F, W.G⟩ := by
        show (⟨W.H0, W.M, D :: W.S, cell D (cLs u (((xs.take ws.length).filter p).map g)) :: W.L, ffL K t a ws xs :: ffS (hid W.S H1) :: W.F, W.G⟩ : Wd) = _
        rw [e]
      rw [e2] at this
      exact this
    obtain ⟨ob, hob, us, rfl, hus⟩ := o2.at_ _ (List.mem_cons_self ..)
    have up := o2.facts (ffS (hid W.S H1)) (List.mem_cons_of_mem _ (List.mem_cons_self ..))
    have less : Same (hid (D :: W.S) H') (hid W.S H') := hid_less fun a h => List.mem_cons_of_mem _ h
    have o3 := Ok.drop (N := [D]) o2 (ok_sub g1.ok) g1.ok.ms
    have o4 : Ok W σ H' := ⟨o3.nod, o3.own, o3.at_, o3.ms, o3.al, o3.bt, o3.len, fun f m => o3.facts f (List.mem_cons_of_mem _ (List.mem_cons_of_mem _ m)), o3.slots⟩
    refine q _ _ (g1.trans ⟨o4, up.trans less⟩) ⟨D, us, rfl, ?_, All2.mono (fun _ _ => u.mono less) hus⟩
    rw [hid_of (g1.ok.off nD)]
    exact hob
theorem et_yes : Et W tYes true := fun σ H o Q q => q H (Go1.refl o)
theorem filter_yes (xs : List α) : xs.filter (fun _ => true) = xs := List.filter_eq_self.mpr fun _ _ => rfl
/-- [te for x in ta] -/
theorem ev_lc0 {xs : List α} {g : α → β} {vs : List Nat} (h : Ev W ta (tLs K t) xs) (hi : i ∈ vs) (hl : xs.length < sizeLine)
    (he : ∀ D φ F x, (∀ f ∈ W.F, f ∈ F) → x ∈ xs → Ev ((W.el D φ F vs).at i (t.is x)) tb u (g x)) : Ev W (tLc (iList K ta) (gName i) tYes tb vs) (tLs K u) (xs.map g) :=
  ev_is (ev_lc (p := fun _ => true) h hi hl (fun _ _ _ _ _ _ => et_yes) fun D φ F x hF hx _ => he D φ F x hF hx) (by rw [filter_yes])
/-- a display of a list -/
theorem ev_nil : Ev W (tLst tNil) (tLs K t) [] := fun σ H o Q q => ⟨Nat.zero_le _, fun p np => q _ _ (o.new np) ⟨p, [], rfl, (by rw [hid_of (o.off np)]; exact upd_same), trivial⟩⟩
/-- arguments that are all of one kind -/
def El (W : Wd) (ar : TA) (t : Ty α) (xs : List α) : Prop := ∀ σ H, Ok W σ H → ∀ Q : List V → Hp → Prop, (∀ vs H', Go1 W σ H H' → All2 (t.r (hid W.S H')) vs xs → Q vs H') → ar σ H Q
theorem el_nil : El W tNil t [] := fun σ H o Q q => q [] H (Go1.refl o) trivial
theorem el_cons {xs : List α} (ha : Ev W ta t x) (hr : El W ar t xs) : El W (tCons ta ar) t (x :: xs) := fun σ H o Q q =>
  ha σ H o _ fun v H1 g1 r1 => hr σ H1 g1.ok _ fun vs H2 g2 r2 => q (v :: vs) H2 (g1.trans g2) ⟨t.mono g2.up r1, r2⟩
theorem ev_lst {xs : List α} (h : El W ar t xs) (hl : xs.length ≤ sizeLine := by decide) : Ev W (tLst ar) (tLs K t) xs := fun σ H o Q q =>
  h σ H o _ fun vs H1 g1 r1 => ⟨by rw [r1.length]; exact hl, fun p np => q _ _ (g1.trans (g1.ok.new np)) ⟨p, vs, rfl, (by rw [hid_of (g1.ok.off np)]; exact upd_same), All2.mono (fun _ _ => t.mono (g1.ok.new np).up) r1⟩⟩
/-- out = [..], a list that is changed later -/
theorem go_new {xs : List α} (h : El W ar t xs) (hl : xs.length ≤ sizeLine := by decide) (k : ∀ p, Go ⟨W.H0, W.M, p :: W.S, cell p (cLs t xs) :: W.L, W.F, W.G.set i (some (tRf.is p))⟩ us D) : Go W (tSeq (tAsg (tLst ar) (gName i)) us) D := fun σ H o =>
  h σ H o _ fun vs H1 g1 r1 => ⟨by rw [r1.length]; exact hl, fun p np => k p _ _ (Ok.put (i := i) (f := tRf.is p) (g1.ok.cell (ψ := cLs t xs) np ⟨vs, rfl, r1⟩).1 rfl)⟩
theorem ok_new {p : Addr} {σ : L2.St} {H : Hp} (o : Ok W σ H) (np : H p = none) : Ok ⟨W.H0, W.M, p :: W.S, cell p (cLs t []) :: W.L, W.F, W.G.set i (some (tRf.is p))⟩ (σ.set i (some (.ref p))) (upd H p (.lst [])) :=
  Ok.put (i := i) (f := tRf.is p) (o.cell (ψ := cLs t []) np ⟨[], rfl, trivial⟩).1 rfl
/-- xs.append(e) -/
theorem go_app {p : Addr} {xs : List α} {R : List RS} (hp : W.G[i]? = some (some (tRf.is p))) (hL : W.L.Perm (cell p (cLs t xs) :: R)) (ha : Ev W ta t x) (hl : xs.length < sizeLine) (k : Go { W with L := cell p (cLs t (xs ++ [x])) :: R } us D) :
    Go W (tSeq (tDrop (tBM K "list" rAppend (tVar i) (tCons ta tNil))) us) D := fun σ H o => by
  obtain ⟨v, h1, h2⟩ := o.slots i _ hp
  obtain rfl : v = .ref p := h2
  have mem : cell p (cLs t xs) ∈ W.L := hL.mem_iff.mpr (List.mem_cons_self ..)
  obtain ⟨ob, hob, vs, rfl, _⟩ := o.at_ _ mem
  refine ⟨.ref p, h1, .inl ⟨rfl, vs, SqL.of hob⟩, ?_⟩
  refine ha σ H o _ fun y H1 g1 ry => ?_
  obtain ⟨ob, hob, ws, rfl, al⟩ := g1.ok.at_ _ mem
  exact ⟨p, ws, y, rfl, rfl, hob, by rw [al.length]; exact hl, k _ _ ((g1.ok.perm hL).write (ψ := cLs t (xs ++ [x])) rfl ⟨_, rfl, al.app (ws := [y]) (ys := [x]) ⟨ry, trivial⟩⟩).ok⟩
theorem go_app1 {p : Addr} {xs : List α} {R : List RS} (hp : W.G[i]? = some (some (tRf.is p))) (hL : W.L.Perm (cell p (cLs t xs) :: R)) (ha : Ev W ta t x) (hl : xs.length < sizeLine) (k : ∀ σ H, Ok { W with L := cell p (cLs t (xs ++ [x])) :: R } σ H → D.nx σ H) :
    Go W (tDrop (tBM K "list" rAppend (tVar i) (tCons ta tNil))) D := go_app (us := fun D σ H => D.nx σ H) hp hL ha hl k
theorem set_self {σ : L2.St} {v : V} (h1 : σ[i]? = some (some v)) : σ.set i (some v) = σ := by
  have l : i < σ.length := (List.getElem?_eq_some_iff.mp h1).1
  apply List.ext_getElem?
  intro j
  rw [List.getElem?_set]
  by_cases e : i = j
  · subst e; rw [if_pos rfl, if_pos l, h1]
  · rw [if_neg e]
/-- the list is done: it is read only -/
theorem go_frz {p : Addr} {xs : List α} {S : List Addr} {L : List RS} {H0 : Hp} {M : List Addr} {F : List FF} {G : List (Option SF)} (hp : G[i]? = some (some (tRf.is p))) (hM : ∀ a ∈ M, a ∈ S) (hn : p ∉ S) (hS : ∀ a, a ∈ fps L → a ∈ S)
    (k : Go ⟨H0, M, S, L, F, G.set i (some ((tLs K t).is xs))⟩ ts D) : Go ⟨H0, M, p :: S, cell p (cLs t xs) :: L, F, G⟩ ts D := fun σ H o => by
  obtain ⟨v, h1, h2⟩ := o.slots i _ hp
  obtain rfl : v = .ref p := h2
  obtain ⟨ob, hob, vs, rfl, al⟩ := o.at_ _ (List.mem_cons_self ..)
  have o2 := Ok.drop (N := [p]) o hS hM
  have up : Same (hid (p :: S) H) (hid S H) := hid_less fun a h => List.mem_cons_of_mem _ h
  have o3 := Ok.put (i := i) (v := .ref p) (f := (tLs K t).is xs) o2 ⟨p, vs, rfl, (by rw [hid_of hn]; exact hob), All2.mono (fun _ _ => t.mono up) al⟩
  rw [set_self h1] at o3
  exact k σ H o3
end
end Cs
set_option maxHeartbeats 4000000
namespace Cs
open PySem PySem.Spec PyProof.Rows L2
/-! ### the deck, its list told -/
def DeckA (K : PySem.W.Frag) (H : Hp) (d l : Addr) (ns : List Int) : Prop := ∃ b c e : Int, H d = some (DeckO l b c e) ∧ SqL K H l (ns.map V.int) ∧ l ≠ d ∧ 0 ≤ b
theorem deckA_of {K : PySem.W.Frag} {H H1 : Hp} {d l : Addr} {ns : List Int} {b c e : Int} (hl : SqL K H l (ns.map V.int)) (ne : l ≠ d) (hb : But d H H1) (h : H1 d = some (DeckO l b c e)) (b0 : 0 ≤ b) : DeckA K H1 d l ns := ⟨b, c, e, h, hb.seq ne hl, ne, b0⟩
def spDeckA (K : PySem.W.Frag) : Sp := fun vs H Q _ => ∃ (a : Addr) (ns : List Int), vs = [.ref a] ∧ SqL K H a (ns.map V.int) ∧ ∀ d l H', Same H H' → H d = none → DeckA K H' d l ns → Q (.ref d) H'
def spDrawA (K : PySem.W.Frag) : Sp := fun vs H Q _ => ∃ (d : Addr) (m : Int) (l : Addr) (ns : List Int), vs = [.ref d, .int m] ∧ 0 < m ∧ m.natAbs < 2 ^ 8000 ∧ DeckA K H d l ns ∧ ∀ v H', 0 ≤ v → v < m → But d H H' → DeckA K H' d l ns → Q (.int v) H'
/-! ### equality of data -/
structure Eqt (K : PySem.W.Frag) {α : Type} (t : Ty α) where
  d : α → PyData
  n : Nat
  dp : ∀ {H : Hp} {v : V} {x : α}, t.r H v x → Dp K H v (d x)
  dep : ∀ x, (d x).depth ≤ n
  inj : ∀ x y, PyData.eqv (d x) (d y) = true ↔ x = y
section
variable {K : PySem.W.Frag} {α : Type} {t : Ty α}
theorem Eqt.dec [DecidableEq α] (q : Eqt K t) (x y : α) : PyData.eqv (q.d x) (q.d y) = decide (x = y) := by
  rw [Bool.eq_iff_iff, q.inj, decide_eq_true_iff]
theorem Eqt.shape (q : Eqt K t) (hn : q.n ≤ 64) {x : α} (l : (q.d x).canLay0 = true) : SeqAt.shaped (q.d x) = true := by
  unfold SeqAt.shaped
  rw [l, decide_eq_true (Nat.le_trans (q.dep x) hn)]
  rfl
def eqInt : Eqt K tInt := ⟨.int, 0, fun h => by rw [show _ = V.int _ from h]; exact .int _, fun _ => by simp [PyData.depth], fun x y => by simp [PyData.eqv]⟩
def eqSt : Eqt K tSt := ⟨.str, 0, fun h => by rw [show _ = V.str _ from h]; exact .str _, fun _ => by simp [PyData.depth], fun x y => by simp [PyData.eqv]⟩
theorem rat_eq {x y : Rat} (h1 : x.num = y.num) (h2 : (x.den : Int) = y.den) : x = y := by
  have : x.den = y.den := by omega
  exact Rat.ext h1 this
def eqFr : Eqt K (tFr K) := ⟨fun r => .tuple [.int r.num, .int r.den], 1, fun ⟨p, e, h⟩ => by rw [e]; exact .tup h (.cons (.int _) (.cons (.int _) .nil)), fun _ => by simp [PyData.depth, PyData.depthAll], fun x y => by
  simp only [PyData.eqv, PyData.eqvAll, Bool.and_true, Bool.and_eq_true, beq_iff_eq]
  exact ⟨fun ⟨a, b⟩ => rat_eq a b, fun e => by rw [e]; exact ⟨rfl, rfl⟩⟩⟩
theorem dpAll_of {H : Hp} (q : Eqt K t) : ∀ {vs : List V} {xs : List α}, All2 (t.r H) vs xs → DpAll K H vs (xs.map q.d)
  | [], [], _ => .nil
  | _ :: _, _ :: _, ⟨a, b⟩ => .cons (q.dp a) (dpAll_of q b)
  | [], _ :: _, h => h.elim
  | _ :: _, [], h => h.elim
theorem depAll_of (q : Eqt K t) : ∀ xs : List α, PyData.depthAll (xs.map q.d) ≤ q.n
  | [] => by simp [PyData.depthAll]
  | x :: xs => by
    have := depAll_of q xs
    have := q.dep x
    simp only [List.map_cons, PyData.depthAll]
    omega
theorem eqvAll_of (q : Eqt K t) : ∀ xs ys : List α, PyData.eqvAll (xs.map q.d) (ys.map q.d) = true ↔ xs = ys
  | [], [] => by simp [PyData.eqvAll]
  | [], _ :: _ => by simp [PyData.eqvAll]
  | _ :: _, [] => by simp [PyData.eqvAll]
  | x :: xs, y :: ys => by
    simp only [List.map_cons, PyData.eqvAll, Bool.and_eq_true, q.inj, eqvAll_of q xs ys, List.cons.injEq]
def eqLs (q : Eqt K t) : Eqt K (tLs K t) := ⟨fun xs => .list (xs.map q.d), q.n + 1, fun ⟨p, vs, e, h, a⟩ => by rw [e]; exact .lst (SqL.of h) (dpAll_of q a), fun xs => by
  have := depAll_of q xs
  simp only [PyData.depth]
  omega, fun x y => by
  simp only [PyData.eqv]
  exact eqvAll_of q x y⟩
theorem layAll_of (q : Eqt K t) : ∀ xs : List α, (∀ x ∈ xs, (q.d x).canLay0 = true) → PyData.canLayAll0 (xs.map q.d) = true
  | [], _ => by simp [PyData.canLayAll0]
  | x :: xs, h => by
    simp only [List.map_cons, PyData.canLayAll0, Bool.and_eq_true]
    exact ⟨h x (List.mem_cons_self ..), layAll_of q xs fun y m => h y (List.mem_cons_of_mem _ m)⟩
theorem lay_ls (q : Eqt K t) {xs : List α} (h : ∀ x ∈ xs, (q.d x).canLay0 = true) : ((eqLs q).d xs).canLay0 = true := by
  show (PyData.list (xs.map q.d)).canLay0 = true
  simp only [PyData.canLay0]
  exact layAll_of q xs h
theorem lay_int (x : Int) : ((eqInt (K := K)).d x).canLay0 = true := by show (PyData.int x).canLay0 = true; simp [PyData.canLay0]
theorem lay_fr (x : Rat) : ((eqFr (K := K)).d x).canLay0 = true := by show (PyData.tuple [.int x.num, .int x.den]).canLay0 = true; simp [PyData.canLay0, PyData.canLayAll0]
end
theorem dp_mono {K : PySem.W.Frag} {H H' : Hp} (e : Same H H') {v : V} {d : PyData} (h : Dp K H v d) : Dp K H' v d := by
  have key : (∀ {v : V} {d : PyData}, Dp K H v d → Dp K H' v d) := by
    intro v d h
    exact Dp.rec (motive_1 := fun v d _ => Dp K H' v d) (motive_2 := fun vs ds _ => DpAll K H' vs ds) .non (fun b => .bl b) (fun i => .int i) (fun x => .str x) (fun s _ ih => .lst (e.seq s) ih) (fun s _ ih => .tup (sqT_mono e s) ih) .nil (fun _ _ a b => .cons a b) h
  exact key h
/-! ### more kinds -/
/-- an instance of the class at C with such attributes, read only -/
def FldAt (H : Hp) (fs : List (Str × V)) (flds : List (Str × SF)) : Prop := ∀ n f, (n, f) ∈ flds → ∃ u, fs.lookup n = some u ∧ f.p H u
def tOb (C : Addr) {α : Type} (flds : α → List (Str × SF)) : Ty α := ⟨fun H v x => ∃ a dx fs, v = .ref a ∧ H a = some (.ins C dx fs) ∧ FldAt H fs (flds x), fun e ⟨a, dx, fs, h, g, k⟩ => ⟨a, dx, fs, h, e _ _ g, fun n f m => by
  obtain ⟨u, h1, h2⟩ := k n f m
  exact ⟨u, h1, f.mono e h2⟩⟩⟩
/-- None or something that is not -/
def tOpt {α : Type} (t : Ty α) : Ty (Option α) := ⟨fun H v x => match x with
  | none => v = .non
  | some y => t.r H v y ∧ v ≠ .non, fun {H H' v x} e h => by
  cases x with
  | none => exact h
  | some y => exact ⟨t.mono e h.1, h.2⟩⟩
/-- a dict that is used as a set of names -/
def cKeys (ks : List Str) : CF := ⟨fun _ o => ∃ kvs, o = .dK kvs ∧ kvs.length ≤ ks.length ∧ ∀ z : Str, (valV kvs (Sum.inr z)).isSome = decide (z ∈ ks), fun _ h => h⟩
def cDeck (K : PySem.W.Frag) (l : Addr) (ns : List Int) : CF := ⟨fun F o => ∃ b c e, o = DeckO l b c e ∧ SqL K F l (ns.map V.int) ∧ 0 ≤ b, fun e ⟨b, c, f, h, g, k⟩ => ⟨b, c, f, h, e.seq g, k⟩⟩
/-! ### tests of several answers -/
def Etx (W : Wd) (tt : TT) (P : Bool → Prop) : Prop := ∀ σ H, Ok W σ H → ∀ Q : Bool → Hp → Prop, (∀ b H', P b → Go1 W σ H H' → Q b H') → tt σ H Q
section
variable {α β γ : Type} {W : Wd} {K : PySem.W.Frag} {ta tb tc : TE} {t : Ty α} {u : Ty β} {x x' : α} {y : β} {tt uu : TT} {ar : TA} {fs : List SF} {i j : Int} {E : XK} {ts us : TS} {D : Ends} {k : Nat} {z z' : Str}
theorem Et.toX {b : Bool} {P : Bool → Prop} (h : Et W tt b) (p : P b) : Etx W tt P := fun σ H o Q q => h σ H o Q fun H' g => q b H' p g
theorem Etx.any {P : Bool → Prop} (h : Etx W tt P) : Etx W tt fun _ => True := fun σ H o Q q => h σ H o Q fun b H' _ g => q b H' trivial g
theorem etx_and {P P' : Bool → Prop} (h : Etx W tt P) (g : Etx W uu P') : Etx W (tAnd tt uu) (fun b => if b = true then P true ∧ P' true else P false ∨ P' false) := fun σ H o Q q => h σ H o _ fun b H1 p g1 => by
  cases b with
  | true =>
    show uu σ H1 Q
    refine g σ H1 g1.ok Q fun c H2 p2 g2 => q c H2 ?_ (g1.trans g2)
    cases c with
    | true => exact ⟨p, p2⟩
    | false => exact .inr p2
  | false => exact q false H1 (.inl p) g1
theorem etx_eqI {P : Int → Prop} (ha : Evx W ta tInt P) (hb : Ev W tb tInt j) : Etx W (tTest (tOp rEq ta tb)) fun b => ∃ i, P i ∧ b = decide (i = j) := fun σ H o Q q =>
  ha σ H o _ fun v i H1 p g1 r1 => hb σ H1 g1.ok _ fun v2 H2 g2 r2 => by
    obtain rfl : v = .int i := r1
    obtain rfl : v2 = .int j := r2
    exact ⟨rfl, _, rfl, q _ H2 ⟨i, p, by simp⟩ (g1.trans g2)⟩
theorem etx_cmp {P : Int → Prop} {g : Int → Int → Bool} (ha : Evx W ta tInt P) (hb : Ev W tb tInt j) : Etx W (tTest (tOp (rI0 fun i j => .bl (g i j)) ta tb)) fun b => ∃ i, P i ∧ b = g i j := fun σ H o Q q =>
  ha σ H o _ fun v i H1 p g1 r1 => hb σ H1 g1.ok _ fun v2 H2 g2 r2 => ⟨i, j, r1, r2, _, rfl, q _ H2 ⟨i, p, rfl⟩ (g1.trans g2)⟩
theorem evx_eqI {P : Int → Prop} (ha : Evx W ta tInt P) (hb : Ev W tb tInt j) : Evx W (tOp rEq ta tb) tBl fun b => ∃ i, P i ∧ b = decide (i = j) := fun σ H o Q q =>
  ha σ H o _ fun v i H1 p g1 r1 => hb σ H1 g1.ok _ fun v2 H2 g2 r2 => by
    obtain rfl : v = .int i := r1
    obtain rfl : v2 = .int j := r2
    exact ⟨rfl, q _ (decide (i = j)) H2 ⟨i, p, rfl⟩ (g1.trans g2) (by show V.bl _ = V.bl _; simp)⟩
theorem evx_add {P P' : Int → Prop} (ha : Evx W ta tInt P) (hb : Evx W tb tInt P') : Evx W (tOp (rI0 fun i j => .int (i + j)) ta tb) tInt (fun s => ∃ i j, P i ∧ P' j ∧ s = i + j) := fun σ H o Q q =>
  ha σ H o _ fun v i H1 p g1 r1 => hb σ H1 g1.ok _ fun v2 j H2 p2 g2 r2 => ⟨i, j, r1, r2, q _ _ H2 ⟨i, j, p, p2, rfl⟩ (g1.trans g2) rfl⟩
theorem Evx.imp {P P' : α → Prop} (h : Evx W ta t P) (e : ∀ x, P x → P' x) : Evx W ta t P' := fun σ H o Q q => h σ H o Q fun v x H' p g r => q v x H' (e x p) g r
theorem Etx.imp {P P' : Bool → Prop} (h : Etx W tt P) (e : ∀ x, P x → P' x) : Etx W tt P' := fun σ H o Q q => h σ H o Q fun b H' p g => q b H' (e b p) g
/-- int(a bool) -/
theorem evx_intB {P : Bool → Prop} (h : Evx W ta tBl P) : Evx W (tCB (fun xs H Q => (∃ i, xs = [.int i] ∧ Q (.int i) H) ∨ ∃ k, xs = [.bl k] ∧ Q (.int (if k then 1 else 0)) H) (tCons ta tNil)) tInt fun i => ∃ b, P b ∧ i = if b then 1 else 0 := fun σ H o Q q =>
  h σ H o _ fun v b H1 p g1 e => .inr ⟨b, by rw [show v = .bl b from e], q _ _ H1 ⟨b, p, rfl⟩ g1 rfl⟩
theorem ev_intB {b : Bool} (h : Ev W ta tBl b) : Ev W (tCB (fun xs H Q => (∃ i, xs = [.int i] ∧ Q (.int i) H) ∨ ∃ k, xs = [.bl k] ∧ Q (.int (if k then 1 else 0)) H) (tCons ta tNil)) tInt (if b then 1 else 0) := fun σ H o Q q =>
  h σ H o _ fun v H1 g1 e => .inr ⟨b, by rw [show v = .bl b from e], q _ H1 g1 rfl⟩
/-! ### comparisons -/
theorem ev_eqI (ha : Ev W ta tInt i) (hb : Ev W tb tInt j) : Ev W (tOp rEq ta tb) tBl (decide (i = j)) := fun σ H o Q q =>
  ha σ H o _ fun v H1 g1 r1 => hb σ H1 g1.ok _ fun v2 H2 g2 r2 => by
    obtain rfl : v = .int i := r1
    obtain rfl : v2 = .int j := r2
    exact ⟨rfl, q _ H2 (g1.trans g2) (by show V.bl _ = V.bl _; simp)⟩
theorem ev_neI (ha : Ev W ta tInt i) (hb : Ev W tb tInt j) : Ev W (tOp rNe ta tb) tBl (!decide (i = j)) := fun σ H o Q q =>
  ha σ H o _ fun v H1 g1 r1 => hb σ H1 g1.ok _ fun v2 H2 g2 r2 => by
    obtain rfl : v = .int i := r1
    obtain rfl : v2 = .int j := r2
    exact ⟨rfl, q _ H2 (g1.trans g2) (by show V.bl _ = V.bl _; simp)⟩
theorem ev_eqS (ha : Ev W ta tSt z) (hb : Ev W tb tSt z') : Ev W (tOp rEq ta tb) tBl (decide (z = z')) := fun σ H o Q q =>
  ha σ H o _ fun v H1 g1 r1 => hb σ H1 g1.ok _ fun v2 H2 g2 r2 => by
    obtain rfl : v = .str z := r1
    obtain rfl : v2 = .str z' := r2
    exact ⟨rfl, q _ H2 (g1.trans g2) (by show V.bl _ = V.bl _; simp)⟩
theorem ev_neS (ha : Ev W ta tSt z) (hb : Ev W tb tSt z') : Ev W (tOp rNe ta tb) tBl (!decide (z = z')) := fun σ H o Q q =>
  ha σ H o _ fun v H1 g1 r1 => hb σ H1 g1.ok _ fun v2 H2 g2 r2 => by
    obtain rfl : v = .str z := r1
    obtain rfl : v2 = .str z' := r2
    exact ⟨rfl, q _ H2 (g1.trans g2) (by show V.bl _ = V.bl _; simp)⟩
theorem ev_eqD [DecidableEq α] (e : Eqt K t) (ha : Ev W ta t x) (hb : Ev W tb t x') (l1 : (e.d x).canLay0 = true) (l2 : (e.d x').canLay0 = true) (hn : e.n ≤ 64 := by decide) : Ev W (tOp (rEqD K) ta tb) tBl (decide (x = x')) := fun σ H o Q q =>
  ha σ H o _ fun v H1 g1 r1 => hb σ H1 g1.ok _ fun v2 H2 g2 r2 => ⟨e.d x, e.d x', dp_mono hid_sub (e.dp (t.mono g2.up r1)), dp_mono hid_sub (e.dp r2), e.shape hn l1, e.shape hn l2, by rw [e.dec]; exact q _ H2 (g1.trans g2) rfl⟩
theorem ev_neD [DecidableEq α] (e : Eqt K t) (ha : Ev W ta t x) (hb : Ev W tb t x') (l1 : (e.d x).canLay0 = true) (l2 : (e.d x').canLay0 = true) (hn : e.n ≤ 64 := by decide) : Ev W (tOp (rNeD K) ta tb) tBl (!decide (x = x')) := fun σ H o Q q =>
  ha σ H o _ fun v H1 g1 r1 => hb σ H1 g1.ok _ fun v2 H2 g2 r2 => ⟨e.d x, e.d x', dp_mono hid_sub (e.dp (t.mono g2.up r1)), dp_mono hid_sub (e.dp r2), e.shape hn l1, e.shape hn l2, by rw [e.dec]; exact q _ H2 (g1.trans g2) rfl⟩
/-- e is None -/
theorem et_isN {x : Option α} (h : Ev W ta (tOpt t) x) : Et W (tTest (tOp (fun x y H Q => y = .non ∧ Q (.bl (decide (x = .non))) H) ta (tC .non))) x.isNone := fun σ H o Q q =>
  h σ H o _ fun v H1 g1 r1 => ⟨rfl, _, rfl, by
    have : decide (v = .non) = x.isNone := by
      cases x with
      | none => rw [show v = .non from r1]; rfl
      | some y => exact decide_eq_false r1.2
    rw [this]
    exact q H1 g1⟩
theorem ev_some (h : Ev W ta (tOpt t) (some x)) : Ev W ta t x := ev_to h fun _ _ r => r.1
/-- a name among names -/
theorem inV_str {H : Hp} {vs : List V} {xs : List Str} (h : All2 (tSt.r H) vs xs) : inV (.str z) vs = decide (z ∈ xs) := by
  rw [All2.toMap V.str (fun v x e => e) h]
  clear h
  induction xs with
  | nil => rfl
  | cons y ys ih =>
    show (eqV (V.str y) (V.str z) || inV (V.str z) (ys.map V.str)) = _
    rw [ih, Bool.eq_iff_iff, Bool.or_eq_true, decide_eq_true_iff, decide_eq_true_iff, List.mem_cons]
    show (y == z) = true ∨ _ ↔ _
    rw [beq_iff_eq]
    exact ⟨fun h => h.imp (fun e => e.symm) id, fun h => h.imp (fun e => e.symm) id⟩
theorem flat_str {H : Hp} {vs : List V} {xs : List Str} (h : All2 (tSt.r H) vs xs) : vs.all flatV = true := by
  rw [All2.toMap V.str (fun v x e => e) h]
  simp [List.all_map, flatV]
theorem ev_inS {xs : List Str} (ha : Ev W ta tSt z) (hb : Ev W tb (tLs K tSt) xs) : Ev W (tOp (rIn K false) ta tb) tBl (decide (z ∈ xs)) := fun σ H o Q q =>
  ha σ H o _ fun v H1 g1 r1 => hb σ H1 g1.ok _ fun v2 H2 g2 ⟨p, vs, e, s, al⟩ => ⟨p, vs, e, .inl ((SqL.of (hid_sub _ _ s))), by rw [show v = .str z from r1]; rfl, flat_str al, q _ H2 (g1.trans g2) (by rw [show v = .str z from r1]; show V.bl (inV (.str z) vs) = _; rw [inV_str al])⟩
theorem ev_niS {xs : List Str} (ha : Ev W ta tSt z) (hb : Ev W tb (tLs K tSt) xs) : Ev W (tOp (rIn K true) ta tb) tBl (!decide (z ∈ xs)) := fun σ H o Q q =>
  ha σ H o _ fun v H1 g1 r1 => hb σ H1 g1.ok _ fun v2 H2 g2 ⟨p, vs, e, s, al⟩ => ⟨p, vs, e, .inl ((SqL.of (hid_sub _ _ s))), by rw [show v = .str z from r1]; rfl, flat_str al, q _ H2 (g1.trans g2) (by rw [show v = .str z from r1]; show V.bl (!inV (.str z) vs) = _; rw [inV_str al])⟩
/-- a list as a test -/
theorem et_tru {xs : List α} (h : Ev W ta (tLs K t) xs) : Et W (fun σ H Q => ta σ H fun x H' => ∃ k, TruV K x H' k ∧ Q k H') (!xs.isEmpty) := fun σ H o Q q =>
  h σ H o _ fun v H1 g1 ⟨p, vs, e, s, al⟩ => ⟨!xs.isEmpty, by
    rw [e]
    refine .inl ⟨vs, (SqL.of (hid_sub _ _ s)), ?_⟩
    cases vs with
    | nil => cases xs with
      | nil => rfl
      | cons _ _ => exact al.elim
    | cons _ _ => cases xs with
      | nil => exact al.elim
      | cons _ _ => rfl, q H1 g1⟩
/-! ### attributes -/
theorem ev_fld {C : Addr} {flds : α → List (Str × SF)} {n : Str} (m : Nat) (h : Ev W ta (tOb C flds) x) (cl : Cls K C) (na : NoAttr K C n) (e : (flds x)[m]? = some (n, u.is y) := by rfl) : Ev W (tFld K ta n) u y := fun σ H o Q q =>
  h σ H o _ fun v H1 g1 ⟨a, dx, fs, ev, ha, k⟩ => by
    obtain ⟨w, h1, h2⟩ := k n _ (List.mem_of_getElem? e)
    exact ⟨a, C, dx, fs, w, ev, hid_sub _ _ ha, cl, na, h1, q w H1 g1 h2⟩
/-! ### lists -/
/-- isinstance(e, list) -/
theorem ev_isL {xs : List α} {tc : TE} (h : Ev W ta (tLs K t) xs) (hc : tc = tC (.ty "list") := by rfl) (kl : PySem.W.kitOne K (.type "list") (.type "list") = some true) : Ev W (tCB (rIsi K) (tCons ta (tCons tc tNil))) tBl true := fun σ H o Q q =>
  h σ H o _ fun v H1 g1 ⟨p, vs, e, s, al⟩ => by
    subst hc
    refine ⟨v, .ty "list", .type "list", .type "list", true, rfl,   .ty _, ?_, kl, q _ H1 g1 rfl⟩
    rw [e]
    exact .base (.lst (hid_sub _ _ s))
end
end Cs
set_option maxHeartbeats 4000000
namespace Cs
open PySem PySem.Spec PyProof.Rows L2
/-! ### what is walked, what it is stored to -/
/-- the walk over xs: f is what it leans on -/
structure Wks {α : Type} (J : It) (f : FF) (t : Ty α) (xs : List α) : Prop where
  ex : ∃ Y, Walk J xs.length (fun H => ∃ S, f.p (hid S H)) Y ∧ ∀ i H v H' S, i < xs.length → f.p (hid S H) → (∀ a ∈ S, H a ≠ none) → Y i H v H' → Same H H' ∧ ∃ x, xs[i]? = some x ∧ t.r (hid S H') v x
def Iv {α : Type} (W : Wd) (wi : TI) (t : Ty α) (xs : List α) : Prop := ∀ σ H, Ok W σ H → ∀ R : It → Hp → Prop, (∀ J H1 f, Go1 W σ H H1 → f.p (hid W.S H1) → Wks J f t xs → R J H1) → wi σ H R
def Wd.puts (W : Wd) : List (Nat × SF) → Wd
  | [] => W
  | p :: ps => Wd.puts (W.at p.1 p.2) ps
def Tgt {α : Type} (g : TG) (t : Ty α) (as : α → List (Nat × SF)) : Prop := ∀ (W : Wd) σ H v x, Ok W σ H → t.r (hid W.S H) v x → ∀ Q : L2.St → Hp → Prop, (∀ σ', Ok (W.puts (as x)) σ' H → (∀ vs : List Nat, (∀ p ∈ as x, p.1 ∈ vs) → wipe σ' vs = wipe σ vs) → Q σ' H) → g v σ H Q
theorem tgt_name {α : Type} {t : Ty α} {i : Nat} : Tgt (gName i) t (fun x => [(i, t.is x)]) := fun W σ H v x o r Q q => q _ (o.put (f := t.is x) r) fun vs h => wipe_set (h (i, t.is x) (List.mem_cons_self ..))
theorem tgt_pair {α β : Type} {K : PySem.W.Frag} {t : Ty α} {u : Ty β} {i j : Nat} : Tgt (gTup K 2 (gCons (gName i) (gCons (gName j) gNil))) (tPr K t u) (fun p => [(i, t.is p.1), (j, u.is p.2)]) := fun W σ H v x o ⟨p, a, b, e, s, r1, r2⟩ Q q =>
  ⟨p, [a, b], e, sqT_mono hid_sub s, rfl, a, [b], rfl, b, [], rfl, rfl, q _ ((o.put (i := i) (f := t.is x.1) r1).put (i := j) (f := u.is x.2) r2) fun vs h => by
    rw [wipe_set (h (j, u.is x.2) (by simp)), wipe_set (h (i, t.is x.1) (List.mem_cons_self ..))]⟩
section
variable {α β γ : Type} {W : Wd} {K : PySem.W.Frag} {ta tb tc : TE} {t : Ty α} {u : Ty β} {x : α} {y : β} {tt uu : TT} {ar : TA} {ts us : TS} {D : Ends} {g : TG} {as : α → List (Nat × SF)} {wi : TI}
theorem iv_list {xs : List α} (h : Ev W ta (tLs K t) xs) : Iv W (iList K ta) t xs := fun σ H o R q => h σ H o _ fun v H1 g1 ⟨p, vs, e, s, al⟩ =>
  ⟨p, e, ⟨vs, (SqL.of (hid_sub _ _ s))⟩, q _ _ (ffL K t p vs xs) g1 ⟨SqL.of s, al⟩ ⟨YAt vs, by
    rw [← al.length]
    exact walk_list.mono (fun H ⟨S, z⟩ => hid_sub.seq z.1) fun i H v H' _ _ h => h, fun i H v H' S hi z _ ⟨e1, e2⟩ => by
    subst e1
    obtain ⟨x, h1, h2⟩ := z.2.getV e2
    exact ⟨Same.refl _, x, h1, h2⟩⟩⟩
theorem iv_rev {xs : List α} (h : Ev W ta (tLs K t) xs) : Iv W (RT.iRevA K ta) t xs.reverse := fun σ H o R q => h σ H o _ fun v H1 g1 ⟨p, vs, e, s, al⟩ =>
  ⟨p, vs, e, .inl ⟨(SqL.of (hid_sub _ _ s)), q _ _ (ffL K t p vs xs) g1 ⟨SqL.of s, al⟩ ⟨fun i H x H' => H' = H ∧ vs[vs.length - 1 - i]? = some x, by
    rw [List.length_reverse, ← al.length]
    exact walk_rev.mono (fun H ⟨S, z⟩ => hid_sub.seq z.1) fun i H v H' _ _ h => h, fun i H v H' S hi z _ ⟨e1, e2⟩ => by
    subst e1
    obtain ⟨x, h1, h2⟩ := z.2.getV e2
    refine ⟨Same.refl _, x, ?_, h2⟩
    rw [List.length_reverse] at hi
    rw [List.getElem?_reverse hi, ← al.length]
    exact h1⟩⟩⟩
def ffT : FF := ⟨fun _ => True, fun _ h => h⟩
theorem iv_range1 {n : Int} (h : Ev W ta tInt n) (h1 : -(2 ^ 62) ≤ n) (h2 : n < 2 ^ 62) : Iv W (iRng1 (tCons ta tNil)) tInt ((List.range n.toNat).map fun (i : Nat) => (i : Int)) := fun σ H o R q => h σ H o _ fun v H1 g1 r =>
  ⟨n, by rw [show v = .int n from r], h1, h2, q _ _ ffT g1 trivial ⟨YFn fun (i : Nat) => .int (0 + (i : Int)), by
    rw [List.length_map, List.length_range]
    exact walk_range.mono (fun _ _ => trivial) fun i H v H' _ _ h => h, fun i H v H' S hi z _ ⟨e1, e2⟩ => by
    subst e1 e2
    rw [List.length_map, List.length_range] at hi
    exact ⟨Same.refl _, (i : Int), by rw [List.getElem?_map, List.getElem?_range hi]; rfl, by show V.int (0 + (i : Int)) = V.int (i : Int); rw [Int.zero_add]⟩⟩⟩
/-- an iterable whose length has several answers -/
theorem evx_range1 {P : Int → Prop} {R' : Hp → Prop} {σ : L2.St} {H : Hp} {R : It → Hp → Prop} (o : Ok W σ H) (h : Evx W ta tInt P) (h1 : ∀ n, P n → -(2 ^ 62) ≤ n ∧ n < 2 ^ 62) (q : ∀ n J H1 f, P n → Go1 W σ H H1 → f.p (hid W.S H1) → Wks J f tInt ((List.range n.toNat).map fun (i : Nat) => (i : Int)) → R J H1) : iRng1 (tCons ta tNil) σ H R :=
  h σ H o _ fun v n H1 p g1 r => ⟨n, by rw [show v = .int n from r], (h1 n p).1, (h1 n p).2, q n _ _ ffT p g1 trivial ⟨YFn fun (i : Nat) => .int (0 + (i : Int)), by
    rw [List.length_map, List.length_range]
    exact walk_range.mono (fun _ _ => trivial) fun i H v H' _ _ h => h, fun i H v H' S hi z _ ⟨e1, e2⟩ => by
    subst e1 e2
    rw [List.length_map, List.length_range] at hi
    exact ⟨Same.refl _, (i : Int), by rw [List.getElem?_map, List.getElem?_range hi]; rfl, by show V.int (0 + (i : Int)) = V.int (i : Int); rw [Int.zero_add]⟩⟩⟩
/-! ### for -/
/-- a for over xs: the things and the slots at each turn by a parameter -/
theorem for_core {ι : Type} {xs : List α} {J : It} {f : FF} {σ : L2.St} {H1 : Hp} (wk : Wks J f t xs) (tg : Tgt g t as) (JJ : Nat → ι → Wd) (Pv : Nat → ι → Prop) (hS : ∀ k c, (JJ k c).F = f :: W.F)
    (start : ∃ c, Pv 0 c ∧ Ok (JJ 0 c) σ H1)
    (hs : ∀ k c x, xs[k]? = some x → Pv k c → Go ((JJ k c).puts (as x)) ts { D with nx := fun σ H => ∃ c', Pv (k + 1) c' ∧ Ok (JJ (k + 1) c') σ H, ct := fun σ H => ∃ c', Pv (k + 1) c' ∧ Ok (JJ (k + 1) c') σ H, bk := D.nx })
    (hd : ∀ c, Pv xs.length c → ∀ σ H, Ok (JJ xs.length c) σ H → D.nx σ H) :
    ∃ Wm : Nat → Nat → L2.St → Hp → Prop, (∃ m, Wm 0 m σ H1) ∧ ∀ i m σ H, Wm i m σ H →
      (J.stop i H ∧ D.nx σ H) ∨ (J.go i H ∧ ∃ N : L2.St → Hp → Prop, (∀ σ' H', N σ' H' → ∃ m', m' < m ∧ Wm (i + 1) m' σ' H') ∧ ∀ x H', J.yld i H x H' → g x σ H' fun σ2 H2 => ts { D with nx := N, ct := N, bk := D.nx } σ2 H2) := by
  obtain ⟨Y, wY, hY⟩ := wk.ex
  have ff : ∀ k c σ H, Ok (JJ k c) σ H → f.p (hid (JJ k c).S H) := fun k c σ H o => o.facts f (by rw [hS]; exact List.mem_cons_self ..)
  refine for_it wY (fun k σ H => ∃ c, Pv k c ∧ Ok (JJ k c) σ H) start (fun k σ H _ ⟨c, _, o⟩ => ⟨_, ff k c σ H o⟩) ?_ ?_
  · rintro k v σ H H' hk ⟨c, pc, o⟩ y
    obtain ⟨e, x, hx, rx⟩ := hY k H v H' _ hk (ff k c σ H o) o.al y
    exact tg _ σ H' v x (o.same e) rx _ fun σ' o' _ => hs k c x hx pc σ' H' o'
  · rintro σ H ⟨c, pc, o⟩
    exact hd c pc σ H o
theorem go_for {ι : Type} {xs : List α} (h : Iv W wi t xs) (tg : Tgt g t as) (J : Nat → ι → List RS × List (Option SF)) (Pv : Nat → ι → Prop) (c0 : ι) (p0 : Pv 0 c0) (w0 : Wk W { W with L := (J 0 c0).1, G := (J 0 c0).2 })
    (hs : ∀ k c x (f : FF), xs[k]? = some x → Pv k c → Go (Wd.puts ⟨W.H0, W.M, W.S, (J k c).1, f :: W.F, (J k c).2⟩ (as x)) ts
      { D with nx := fun σ H => ∃ c', Pv (k + 1) c' ∧ Ok ⟨W.H0, W.M, W.S, (J (k + 1) c').1, f :: W.F, (J (k + 1) c').2⟩ σ H, ct := fun σ H => ∃ c', Pv (k + 1) c' ∧ Ok ⟨W.H0, W.M, W.S, (J (k + 1) c').1, f :: W.F, (J (k + 1) c').2⟩ σ H, bk := D.nx })
    (hd : ∀ c, Pv xs.length c → ∀ σ H, Ok { W with L := (J xs.length c).1, G := (J xs.length c).2 } σ H → D.nx σ H) :
    Go W (tFor wi g ts) D := fun σ H o => h σ H o _ fun Ji H1 f g1 fp wk =>
  for_core wk tg (fun k c => ⟨W.H0, W.M, W.S, (J k c).1, f :: W.F, (J k c).2⟩) Pv (fun _ _ => rfl) ⟨c0, p0, Ok.know (w0 _ _ g1.ok) fp⟩ (fun k c x hx pc => hs k c x f hx pc) fun c pc σ' H' o' => hd c pc σ' H'
    ⟨o'.nod, o'.own, o'.at_, o'.ms, o'.al, o'.bt, o'.len, fun q m => o'.facts q (List.mem_cons_of_mem _ m), o'.slots⟩
/-! ### comprehensions -/
/-- what a comprehension makes of xs where test and element have several answers -/
inductive LcR (P : α → Bool → Prop) (R : α → β → Prop) : List α → List β → Prop
  | nil : LcR P R [] []
  | skip {xs ys x} : LcR P R xs ys → P x false → LcR P R (xs ++ [x]) ys
  | take {xs ys x y} : LcR P R xs ys → P x true → R x y → LcR P R (xs ++ [x]) (ys ++ [y])
theorem LcR.len {P : α → Bool → Prop} {R : α → β → Prop} {xs : List α} {ys : List β} (h : LcR P R xs ys) : ys.length ≤ xs.length := by
  induction h with
  | nil => exact Nat.le_refl _
  | skip _ _ ih => rw [List.length_append]; exact Nat.le_trans ih (Nat.le_add_right _ _)
  | take _ _ _ ih => rw [List.length_append, List.length_append]; simpa using ih
theorem LcR.det {p : α → Bool} {f : α → β} {xs : List α} {ys : List β} (h : LcR (fun x b => b = p x) (fun x y => y = f x) xs ys) : ys = (xs.filter p).map f := by
  induction h with
  | nil => rfl
  | skip _ hp ih => rw [filterMap_snoc, ← hp, ih]; simp
  | take _ hp hy ih => rw [filterMap_snoc, ← hp, ih, hy]; simp
theorem LcR.sub {P : α → Bool → Prop} {xs ys : List α} (h : LcR P (fun x y => y = x) xs ys) : ys.Sublist xs := by
  induction h with
  | nil => exact List.Sublist.refl _
  | skip _ _ ih => exact ih.trans (List.sublist_append_left _ _)
  | take _ _ e ih => rw [e]; exact List.Sublist.append ih (List.Sublist.refl _)
theorem LcR.all {P : α → Bool → Prop} {R : α → β → Prop} {p : β → Prop} {xs : List α} {ys : List β} (h : LcR P R xs ys) (f : ∀ x y, x ∈ xs → P x true → R x y → p y) : ∀ y, y ∈ ys → p y := by
  induction h with
  | nil => intro y m; cases m
  | skip _ _ ih => exact ih fun x y m => f x y (List.mem_append_left _ m)
  | take _ hp hr ih =>
    intro y m
    rcases List.mem_append.mp m with m | m
    · exact ih (fun x y m => f x y (List.mem_append_left _ m)) y m
    · rw [List.mem_singleton.mp m]
      exact f _ _ (List.mem_append_right _ (List.mem_singleton.mpr rfl)) hp hr
theorem LcR.full {R : α → β → Prop} {xs : List α} {ys : List β} (h : LcR (fun _ b => b = true) R xs ys) : ys.length = xs.length := by
  induction h with
  | nil => rfl
  | skip _ e _ => cases e
  | take _ _ _ ih => rw [List.length_append, List.length_append, ih]; rfl
theorem evx_lc {xs : List α} {P : α → Bool → Prop} {R : α → β → Prop} {vs : List Nat} (h : Iv W wi t xs) (tg : Tgt g t as) (hi : ∀ x, ∀ p ∈ as x, p.1 ∈ vs) (hl : xs.length < sizeLine)
    (ht : ∀ D φ F x, (∀ f ∈ W.F, f ∈ F) → x ∈ xs → Etx ((W.el D φ F vs).puts (as x)) tt (P x))
    (he : ∀ D φ F x, (∀ f ∈ W.F, f ∈ F) → x ∈ xs → P x true → Evx ((W.el D φ F vs).puts (as x)) tb u (R x)) (hp : ∀ (W : Wd) x, (W.puts (as x)).H0 = W.H0 ∧ (W.puts (as x)).M = W.M ∧ (W.puts (as x)).S = W.S ∧ (W.puts (as x)).L = W.L ∧ (W.puts (as x)).F = W.F := by intros; exact ⟨rfl, rfl, rfl, rfl, rfl⟩) :
    Evx W (tLc wi g tt tb vs) (tLs K u) (LcR P R xs) := fun σ H o Q q => by
  refine h σ H o _ fun J H1 f g1 fp wk => ?_
  intro D nD
  obtain ⟨Y, wY, hY⟩ := wk.ex
  let Wk : List β → Wd := fun ys => ⟨W.H0, W.M, D :: W.S, cell D (cLs u ys) :: W.L, f :: ffS (hid W.S H1) :: W.F, W.G⟩
  have start : Ok (Wk []) σ (upd H1 D (.lst [])) := by
    obtain ⟨o1, up⟩ := g1.ok.cell (ψ := cLs u ([] : List β)) nD ⟨[], rfl, trivial⟩
    exact Ok.know (Ok.know o1 (f := ffS (hid W.S H1)) up) (f := f) (f.mono up fp)
  have ff : ∀ ys H, Ok (Wk ys) σ H → f.p (hid (D :: W.S) H) := fun ys H o => o.facts f (List.mem_cons_self ..)
  refine lc_it wY (fun k H' => ∃ ys, LcR P R (xs.take k) ys ∧ Ok (Wk ys) σ H') ⟨[], .nil, start⟩ (fun k H' _ ⟨ys, _, o'⟩ => ⟨_, ff ys H' o'⟩) ?_ ?_
  · rintro k v H0' H' hk ⟨ys, rel, o'⟩ y
    obtain ⟨e, x, hx, rx⟩ := hY k H0' v H' _ hk (ff ys H0' o') o'.al y
    have o' := o'.same e
    have xm := List.mem_of_getElem? hx
    have sub : ∀ q ∈ W.F, q ∈ f :: ffS (hid W.S H1) :: W.F := fun q m => List.mem_cons_of_mem _ (List.mem_cons_of_mem _ m)
    refine tg _ _ H' v x (Ok.wipe (vs := vs) o') rx _ fun σ' oe ew => ?_
    refine ⟨by rw [ew vs (hi x), wipe_twice], ?_⟩
    have back : ∀ H2, Go1 (((W.el D (cLs u ys) (f :: ffS (hid W.S H1) :: W.F) vs).puts (as x))) σ' H' H2 → Ok (Wk ys) σ H2 := fun H2 g2 => by
      obtain ⟨p1, p2, p3, p4, p5⟩ := hp (W.el D (cLs u ys) (f :: ffS (hid W.S H1) :: W.F) vs) x
      have o2 := g2.ok
      have up := g2.up
      rw [p3] at up
      have o3 : Ok { Wk ys with G := ((W.el D (cLs u ys) (f :: ffS (hid W.S H1) :: W.F) vs).puts (as x)).G } σ' H2 := by
        have : ((W.el D (cLs u ys) (f :: ffS (hid W.S H1) :: W.F) vs).puts (as x)) = { Wk ys with G := ((W.el D (cLs u ys) (f :: ffS (hid W.S H1) :: W.F) vs).puts (as x)).G } := by
          generalize ((W.el D (cLs u ys) (f :: ffS (hid W.S H1) :: W.F) vs).puts (as x)) = Z at p1 p2 p3 p4 p5 ⊢
          cases Z
          cases p1; cases p2; cases p3; cases p4; cases p5
          rfl
        rw [← this]
        exact o2
      exact Ok.swap (W := Wk ys) o' o3 up
    refine ht D _ _ x sub xm _ _ oe _ fun b H2 pb g2 => ?_
    cases b with
    | false =>
      refine iteF ⟨ys, ?_, back H2 g2⟩
      rw [take_snoc hx]
      exact .skip rel pb
    | true =>
      refine iteT ?_
      refine he D _ _ x sub xm pb _ _ g2.ok _ fun w z H3 pz g3 rz => ?_
      have o3 := back H3 (g2.trans g3)
      obtain ⟨ob, hob, us', rfl, hus⟩ := o3.at_ _ (List.mem_cons_self ..)
      refine ⟨us', hob, ?_, ys ++ [z], ?_, ?_⟩
      · rw [hus.length]
        refine Nat.lt_of_le_of_lt (Nat.le_trans rel.len ?_) hl
        rw [List.length_take]
        omega
      · rw [take_snoc hx]
        exact .take rel pb pz
      · rw [(hp (W.el D (cLs u ys) (f :: ffS (hid W.S H1) :: W.F) vs) x).2.2.1] at rz
        exact (o3.write (ψ := cLs u (ys ++ [z])) (o := .lst (us' ++ [w])) rfl ⟨_, rfl, hus.app (ws := [w]) (ys := [z]) ⟨rz, trivial⟩⟩).ok
  · rintro H' ⟨ys, rel, o2⟩
    rw [List.take_length] at rel
    obtain ⟨ob, hob, us', rfl, hus⟩ := o2.at_ _ (List.mem_cons_self ..)
    have up := o2.facts (ffS (hid W.S H1)) (List.mem_cons_of_mem _ (List.mem_cons_self ..))
    have less : Same (hid (D :: W.S) H') (hid W.S H') := hid_less fun a h => List.mem_cons_of_mem _ h
    have o3 := Ok.drop (N := [D]) o2 (ok_sub g1.ok) g1.ok.ms
    have o4 : Ok W σ H' := ⟨o3.nod, o3.own, o3.at_, o3.ms, o3.al, o3.bt, o3.len, fun f m => o3.facts f (List.mem_cons_of_mem _ (List.mem_cons_of_mem _ m)), o3.slots⟩
    refine q _ ys _ rel (g1.trans ⟨o4, up.trans less⟩) ⟨D, us', rfl, ?_, All2.mono (fun _ _ => u.mono less) hus⟩
    rw [hid_of (g1.ok.off nD)]
    exact hob
theorem ev_lcf {xs : List α} {p : α → Bool} {f : α → β} {vs : List Nat} (h : Iv W wi t xs) (tg : Tgt g t as) (hi : ∀ x, ∀ p ∈ as x, p.1 ∈ vs) (hl : xs.length < sizeLine)
    (ht : ∀ D φ F x, (∀ f ∈ W.F, f ∈ F) → x ∈ xs → Et ((W.el D φ F vs).puts (as x)) tt (p x))
    (he : ∀ D φ F x, (∀ f ∈ W.F, f ∈ F) → x ∈ xs → p x = true → Ev ((W.el D φ F vs).puts (as x)) tb u (f x)) (hp : ∀ (W : Wd) x, (W.puts (as x)).H0 = W.H0 ∧ (W.puts (as x)).M = W.M ∧ (W.puts (as x)).S = W.S ∧ (W.puts (as x)).L = W.L ∧ (W.puts (as x)).F = W.F := by intros; exact ⟨rfl, rfl, rfl, rfl, rfl⟩) :
    Ev W (tLc wi g tt tb vs) (tLs K u) ((xs.filter p).map f) := fun σ H o Q q =>
  evx_lc (P := fun x b => b = p x) (R := fun x y => y = f x) h tg hi hl (fun D φ F x hF hx => (ht D φ F x hF hx).toX rfl) (fun D φ F x hF hx e => (he D φ F x hF hx e.symm).x rfl) hp σ H o Q fun v ys H' r g1 rr => q v H' g1 (r.det ▸ rr)
theorem ev_lcm {xs : List α} {f : α → β} {vs : List Nat} (h : Iv W wi t xs) (tg : Tgt g t as) (hi : ∀ x, ∀ p ∈ as x, p.1 ∈ vs) (hl : xs.length < sizeLine)
    (he : ∀ D φ F x, (∀ f ∈ W.F, f ∈ F) → x ∈ xs → Ev ((W.el D φ F vs).puts (as x)) tb u (f x)) (hp : ∀ (W : Wd) x, (W.puts (as x)).H0 = W.H0 ∧ (W.puts (as x)).M = W.M ∧ (W.puts (as x)).S = W.S ∧ (W.puts (as x)).L = W.L ∧ (W.puts (as x)).F = W.F := by intros; exact ⟨rfl, rfl, rfl, rfl, rfl⟩) :
    Ev W (tLc wi g tYes tb vs) (tLs K u) (xs.map f) :=
  ev_is (ev_lcf (p := fun _ => true) h tg hi hl (fun _ _ _ _ _ _ => et_yes) (fun D φ F x hF hx _ => he D φ F x hF hx) hp) (by rw [filter_yes])
end
end Cs
set_option maxHeartbeats 4000000
namespace Cs
open PySem PySem.Spec PyProof.Rows L2
/-! ### draws -/
def cDk (K : PySem.W.Frag) (d l : Addr) (ns : List Int) : CF := ⟨fun F o => ∃ b c e, o = DeckO l b c e ∧ SqL K F l (ns.map V.int) ∧ l ≠ d ∧ 0 ≤ b, fun e ⟨b, c, f, h, g, k⟩ => ⟨b, c, f, h, e.seq g, k⟩⟩
/-- the deck, where the script's own list is new, too -/
def spDeckN (K : PySem.W.Frag) : Sp := fun vs H Q _ => ∃ (a : Addr) (ns : List Int), vs = [.ref a] ∧ SqL K H a (ns.map V.int) ∧ ∀ d l H', Same H H' → H d = none → H l = none → DeckA K H' d l ns → Q (.ref d) H'
section
variable {α β γ : Type} {W : Wd} {K : PySem.W.Frag} {ta tb tc : TE} {t : Ty α} {u : Ty β} {x x' : α} {y : β} {tt uu : TT} {ar : TA} {fs : List SF} {i j : Int} {E : XK} {ts us : TS} {D : Ends} {z z' : Str} {g : TG} {as : α → List (Nat × SF)} {wi : TI}
theorem evx_draw {m : Int} {s : Nat} {d l : Addr} {ns : List Int} (hs : W.G[s]? = some (some (tRf.is d))) (hL : cell d (cDk K d l ns) ∈ W.L) (hm : Ev W ta tInt m) (m0 : 0 < m) (mb : m.natAbs < 2 ^ 8000) :
    Evx W (tCall (spDrawA K) [] E (tCons (tVar s) (tCons ta tNil))) tInt (fun v => 0 ≤ v ∧ v < m) := fun σ H o Q q => by
  obtain ⟨v, h1, rfl⟩ := o.slots s _ hs
  refine ⟨.ref d, h1, ?_⟩
  refine hm σ H o _ fun v H1 g1 r => ?_
  obtain ⟨ob, hob, b, c, e, rfl, hl, ne, b0⟩ := g1.ok.at_ _ hL
  refine ⟨d, m, l, ns, by rw [show v = .int m from r]; rfl, m0, mb, ⟨b, c, e, hob, hid_sub.seq hl, ne, b0⟩, fun w H2 w0 w1 bt ⟨b', c', e', hob', _, _, b0'⟩ => ?_⟩
  have fd : fps [cell d (cDk K d l ns)] = [d] := rfl
  have bt' : Bt (fps [cell d (cDk K d l ns)]) H1 H2 := fun a o n h => bt a o (fun z => n (by rw [fd, z]; exact List.mem_cons_self ..)) h
  have hd : d ∈ W.S := (g1.ok.own d (mem_fps hL (List.mem_cons_self ..))).1
  have up : Same (hid W.S H1) (hid W.S H2) := bt'.hid (N := []) (fun a m => by rw [fd] at m; rw [List.mem_singleton.mp m]; exact hd) (fun a m => nomatch m)
  have g2 := g1.ok.after (C := [cell d (cDk K d l ns)]) (fun r m => by rw [List.mem_singleton.mp m]; exact hL) bt' (fun a m => by rw [fd] at m; rw [List.mem_singleton.mp m, hob']; simp) (fun r m => by
    rw [List.mem_singleton.mp m]
    exact ⟨_, hob', b', c', e', rfl, up.seq hl, ne, b0'⟩)
  exact q _ w H2 ⟨w0, w1⟩ (g1.trans g2) rfl
/-- deck = _law_deck(script) -/
theorem go_deck {ns : List Int} {s n : Nat} (hs : W.G[s]? = some (some ((tSc K).is ns))) (k : ∀ d l, Go ⟨W.H0, W.M, d :: W.S, cell d (cDk K d l ns) :: W.L, W.F, W.G.set n (some (tRf.is d))⟩ us D) : Go W (tSeq (tAsg (tCall (spDeckN K) [] E (tCons (tVar s) tNil)) (gName n)) us) D := fun σ H o => by
  obtain ⟨v, h1, p, rfl, hq⟩ := o.slots s _ hs
  refine ⟨.ref p, h1, p, ns, rfl, ?_, fun d l H' e nd nl ⟨b, c, f, hd, hl, ne, b0⟩ => ?_⟩
  · exact hid_sub.seq hq
  · have o1 := o.same e
    have nl' : l ∉ [d] ++ W.S := fun z => by
      rcases List.mem_cons.mp z with z | z
      · exact ne z
      · exact o.al l z nl
    have e2 : Bt (fps ([] : List RS)) H H' := Bt.of e
    obtain ⟨o2, _⟩ := o.change1 (C := []) (C' := [cell d (cDk K d l ns)]) (R := W.L) (N := [d]) (H' := H') rfl e2 (fun a m => by rw [List.mem_singleton.mp m]; exact ⟨nd, by rw [hd]; simp⟩) (by show [d].Nodup; simp) (fun a m => .inr m) (fun a m => nomatch m) (fun r m => by
      rw [List.mem_singleton.mp m]
      refine ⟨_, hd, b, c, f, rfl, ?_, ne, b0⟩
      rcases hl with (hl | ⟨ob, hl⟩) | hl
      · exact .inl (.inl (by rw [hid_of nl']; exact hl))
      · exact .inl (.inr ⟨ob, by rw [hid_of nl']; exact hl⟩)
      · exact .inr hl)
    exact k d l _ _ (Ok.put (i := n) (f := tRf.is d) o2 rfl)
/-! ### fractions -/
theorem ev_ratio {p q : Int} (ha : Ev W ta tInt p) (hb : Ev W tb tInt q) (q0 : q ≠ 0) (hp : p.natAbs < 2 ^ 2400) (hq : q.natAbs < 2 ^ 2400) : Ev W (tCall spRatio [] E (tCons ta (tCons tb tNil))) (tFr K) (Rat.divInt p q) := fun σ H o Q k =>
  ha σ H o _ fun v H1 g1 r1 => hb σ H1 g1.ok _ fun v2 H2 g2 r2 => ⟨p, q, by rw [show v = .int p from r1, show v2 = .int q from r2]; rfl, q0, hp, hq, fun a H3 e na ha =>
    k _ _ ((g1.trans g2).trans (g2.ok.go e)) ⟨a, rfl, SqT.of (by rw [hid_of (g2.ok.off na)]; exact ha)⟩⟩
theorem evx_ratio {P P' : Int → Prop} (ha : Evx W ta tInt P) (hb : Evx W tb tInt P') (c : ∀ p q, P p → P' q → q ≠ 0 ∧ p.natAbs < 2 ^ 2400 ∧ q.natAbs < 2 ^ 2400) : Evx W (tCall spRatio [] E (tCons ta (tCons tb tNil))) (tFr K) (fun r => ∃ p q, P p ∧ P' q ∧ r = Rat.divInt p q) := fun σ H o Q k =>
  ha σ H o _ fun v p H1 pp g1 r1 => hb σ H1 g1.ok _ fun v2 q H2 pq g2 r2 => ⟨p, q, by rw [show v = .int p from r1, show v2 = .int q from r2]; rfl, (c p q pp pq).1, (c p q pp pq).2.1, (c p q pp pq).2.2, fun a H3 e na ha =>
    k _ _ _ ⟨p, q, pp, pq, rfl⟩ ((g1.trans g2).trans (g2.ok.go e)) ⟨a, rfl, SqT.of (by rw [hid_of (g2.ok.off na)]; exact ha)⟩⟩
theorem ev_frc {p q : Int} (ha : Ev W ta tInt p) (hb : Ev W tb tInt q) (q0 : q ≠ 0) (hq : q.natAbs < 2 ^ 9000) : Ev W (tCall spFrac [] E (tCons ta (tCons tb tNil))) (tFr K) (Rat.divInt p q) := fun σ H o Q k =>
  ha σ H o _ fun v H1 g1 r1 => hb σ H1 g1.ok _ fun v2 H2 g2 r2 => ⟨p, q, by rw [show v = .int p from r1, show v2 = .int q from r2]; rfl, q0, hq, fun a H3 e na ha =>
    k _ _ ((g1.trans g2).trans (g2.ok.go e)) ⟨a, rfl, SqT.of (by rw [hid_of (g2.ok.off na)]; exact ha)⟩⟩
theorem ev_frc1 {p : Int} (ha : Ev W ta tInt p) : Ev W (tCall spFrac [.int 1] E (tCons ta tNil)) (tFr K) (p : Rat) := fun σ H o Q k =>
  ha σ H o _ fun v H1 g1 r1 => ⟨p, 1, by rw [show v = .int p from r1]; rfl, by decide, Nat.lt_of_lt_of_le (by decide : (1 : Int).natAbs < 2 ^ 1) (Nat.pow_le_pow_right (by decide) (by decide)), fun a H3 e na ha =>
    k _ _ (g1.trans (g1.ok.go e)) ⟨a, rfl, SqT.of (by
      rw [hid_of (g1.ok.off na), ha]
      have : Rat.divInt p 1 = (p : Rat) := by
        rw [Rat.divInt_eq_div, show ((1 : Int) : Rat) = 1 from rfl]; grind
      rw [this]; rfl)⟩⟩
/-! ### lists, again -/
theorem ev_cat {xs ys : List α} (ha : Ev W ta (tLs K t) xs) (hb : Ev W tb (tLs K t) ys) (hl : xs.length + ys.length ≤ sizeLine) : Ev W (tOp rCat ta tb) (tLs K t) (xs ++ ys) := fun σ H o Q q =>
  ha σ H o _ fun v H1 g1 r1 => hb σ H1 g1.ok _ fun v2 H2 g2 ⟨p2, vs2, e2, s2, al2⟩ => by
    obtain ⟨p1, vs1, e1, s1, al1⟩ := (tLs K t).mono g2.up r1
    exact ⟨p1, p2, vs1, vs2, e1, e2, hid_sub _ _ s1, hid_sub _ _ s2, by rw [al1.length, al2.length]; exact hl, fun p np => q _ _ ((g1.trans g2).trans (g2.ok.new np))
      ⟨p, vs1 ++ vs2, rfl, (by rw [hid_of (g2.ok.off np)]; exact upd_same), All2.mono (fun _ _ => t.mono (g2.ok.new np).up) (al1.app al2)⟩⟩
/-- arguments with stars -/
theorem el_star {xs ys : List α} (ha : Ev W ta (tLs K t) xs) (hr : El W ar t ys) : El W (StX.tStar K ta ar) t (xs ++ ys) := fun σ H o Q q =>
  ha σ H o _ fun v H1 g1 ⟨p, vs, e, s, al⟩ => ⟨p, vs, e, .inr ((SqL.of (hid_sub _ _ s))), hr σ H1 g1.ok _ fun ws H2 g2 r2 => q _ _ (g1.trans g2) ((All2.mono (fun _ _ => t.mono g2.up) al).app r2)⟩
theorem El.go {xs ys : List α} (h : El W ar t xs) (e : xs = ys) : El W ar t ys := e ▸ h
end
end Cs
set_option maxHeartbeats 4000000
namespace Cs
open PySem PySem.Spec PyProof.Rows L2
open Sem (wp)
/-! ### list(reversed(xs)) -/
section
variable {prog : Program} {w : World} {A : Around} {E : Value → Shared → Prop} {s : Shared}
/-- the new list at S takes what the reversed iterator gives -/
theorem ext_rev {it l S : Addr} {items : Array Value} {R : Result → Shared → Prop} {res : Value} {c0 : Nat} (hh : A.handled = none) (hit : s.heap.IsRevIter it l ((items.size : Int) - 1)) (hl : s.heap.IsList l items) (hne : l ≠ it) (hn : items.size ≤ sizeLine)
    (hSi : S ≠ it) (hSl : S ≠ l) (hS : s.heap.get? S = some { cls := .type "list", data := .seq #[] c0 })
    (hR : ∀ (s' : Shared) (acc : Array Value) (c' : Nat), Moved [S, it] (fun a b => b = a) s s' → s'.heap.get? S = some { cls := .type "list", dict := none, data := .seq acc c', slots := #[] } → ItemsOf (fun i v => items[items.size - 1 - i]? = some v) acc items.size → R (.ok (.ret res)) s') :
    wpAny (model prog w) A.in1 (Builtin.List.listExtendWith (.ref S) (.ref it) res) (fun fin s' => match fin with | .done f => R (.ok f) s' | .again c' => c'.quiet = true ∧ codeAny (model prog w) A c' R s') (fun e s' => R (.error e) s') s := by
  have W := (Walks.listRev (prog := prog) (w := w) (A := A.in1) hh it l hne items).toS
  have hSf : S ∉ [it, l] := by simp [hSi, hSl]
  have hT : s.TypeIs (.ref it) "list_reverseiterator" := hit.typeIs
  have same : Builtin.List.listSameRef (.ref S) (.ref it) = false := by simp [Builtin.List.listSameRef, hSi]
  unfold Builtin.List.listExtendWith
  refine wpAny_bind (wpAny_typeOf hT ?_)
  rw [if_neg (by rw [same]; decide)]
  refine wpAny_bind (wpAny_pyIter_revIter hit ?_)
  refine wpAny_bind (wpAny_holding ?_)
  unfold Builtin.List.listLengthHint
  refine wpAny_bind (wpAny_specialOf hT RT.nolen_lri ?_)
  show wpAny _ A.in1 (specialOf (Value.ref it) (Str.ofString "__length_hint__") >>= _) _ _ _
  refine wpAny_bind (wpAny_specialOf hT RT.hint_lri ?_)
  generalize eid : ("list_reverseiterator.__length_hint__" : String) = hint
  wp_delta
  rw [show splitId hint = some ("list_reverseiterator", "__length_hint__") from by subst eid; decide +kernel]
  subst eid
  refine wpAny_bind (wpAny_isInstance (T := "list_reverseiterator") (b := true) hT (by rw [isSubtype_type]; kernel_rfl) ?_)
  refine wpAny_pure ?_
  rw [if_neg (by decide)]
  have st0 : (0 : Nat) ≤ items.size ∧ s.heap.IsRevIter it l ((items.size : Int) - 1 - ((0 : Nat) : Int)) ∧ s.heap.IsList l items := ⟨Nat.zero_le _, by rw [show (items.size : Int) - 1 - ((0 : Nat) : Int) = (items.size : Int) - 1 from by omega]; exact hit, hl⟩
  exact wpAny_pure ⟨plainId_quiet F.plain_extend_loop _, codeAny_extend_loopS W hn _ hSf _ items.size 0 _ _ _ rfl (Nat.zero_le _) st0 hS (ItemsOf.nil _) fun s' acc' c' hm hS' hacc => hR s' acc' c' hm hS' hacc⟩
theorem call_list_rev {it l : Addr} {items : Array Value} {Q : Value → Shared → Prop} (hh : A.handled = none) (hit : s.heap.IsRevIter it l ((items.size : Int) - 1)) (hl : s.heap.IsList l items) (hne : l ≠ it) (hn : items.size ≤ sizeLine)
    (hQ : ∀ (s' : Shared) (acc : Array Value) (c' : Nat), Moved [s.heap.objs.size, it] (fun a b => b = a) { s with heap := s.heap.push { cls := .type "list", data := .seq #[] } } s' → s'.heap.get? s.heap.objs.size = some { cls := .type "list", dict := none, data := .seq acc c', slots := #[] } →
      ItemsOf (fun i v => items[items.size - 1 - i]? = some v) acc items.size → Q (.ref s.heap.objs.size) s') : wpAny (model prog w) A (call (.type "list") [.ref it]) Q E s := by
  refine callType_codes (Q₁ := fun obj s₁ => obj = .ref s.heap.objs.size ∧ s₁ = { s with heap := s.heap.push { cls := .type "list", data := .seq #[] } }) F.called_list (F.typeCall_list_1 _) F.entry_list_init (code_list_new _ ⟨rfl, rfl⟩) fun obj s₁ h₁ => ?_
  obtain ⟨rfl, rfl⟩ := h₁
  have new : (s.heap.push { cls := .type "list", data := .seq #[] }).get? s.heap.objs.size = some { cls := .type "list", data := .seq #[] } := Heap.get?_push_size _ rfl
  have hSi : s.heap.objs.size ≠ it := by obtain ⟨o, ho, _⟩ := id hit; exact Nat.ne_of_gt (Heap.lt_size ho)
  have hSl : s.heap.objs.size ≠ l := by obtain ⟨o, ho, _⟩ := id hl; exact Nat.ne_of_gt (Heap.lt_size ho)
  refine ⟨⟨_, new, rfl⟩, F.args_list_init_2 _ _, ?_⟩
  show wpAny _ A.in1.in1 (Builtin.List.listItems (.ref s.heap.objs.size) >>= fun old => Builtin.List.listUpdate (.ref s.heap.objs.size) (fun _ => #[]) >>= fun _ => letGo old.toList.reverse >>= fun _ => Builtin.List.listExtendWith (.ref s.heap.objs.size) (.ref it) .none) _ _ _
  refine wpAny_bind ?_
  unfold Builtin.List.listItems
  refine wpAny_bind (wpAny_seqItems new rfl (wpAny_pure (wpAny_bind (m := updateSeq s.heap.objs.size fun _ => #[]) (wpAny_updateSeq new rfl (wpAny_bind (wpAny_letGo ?_))))))
  have new2 := Heap.get?_update_self (Obj.mapSeq (fun _ => (#[] : Array Value))) new rfl
  have oth : ∀ b o, b ≠ s.heap.objs.size → (s.heap.push { cls := .type "list", data := .seq #[] }).get? b = some o → ((s.heap.push { cls := .type "list", data := .seq #[] }).update s.heap.objs.size (Obj.mapSeq fun _ => (#[] : Array Value))).get? b = some o :=
    fun b o hb q => (Heap.get?_update_other _ _ (Ne.symm hb)).trans q
  refine ext_rev (A := A.in1) (c0 := _) hh (hit.at fun o q => oth _ o hSi.symm (Heap.get?_push_of_some _ q)) (by obtain ⟨o, ho, r⟩ := id hl; exact ⟨o, oth _ o hSl.symm (Heap.get?_push_of_some _ ho), r⟩) hne hn hSi hSl new2 fun s' acc c' hm hS' hacc => ?_
  have m1 : Moved [s.heap.objs.size, it] (fun a b => b = a) { s with heap := s.heap.push { cls := .type "list", data := .seq #[] } } { s with heap := (s.heap.push { cls := .type "list", data := .seq #[] }).update s.heap.objs.size (Obj.mapSeq fun _ => (#[] : Array Value)) } :=
    ⟨fun b o hb q => oth b o (fun z => hb (by rw [z]; exact List.mem_cons_self ..)) q, rfl, rfl, rfl, Nat.le_refl _⟩
  exact ⟨rfl, hQ s' acc c' (m1.trans (fun _ _ _ h1 h2 => h2.trans h1) hm) hS' hacc⟩
end
/-- list(reversed(e)), e a list -/
def tListRev (te : TE) : TE := fun σ H Q => te σ H fun v H1 => ∃ (a : Addr) (xs : List V), v = .ref a ∧ H1 a = some (.lst xs) ∧ ∀ q, H1 q = none → Q (.ref q) (upd H1 q (.lst xs.reverse))
theorem pe_listRev {X : Cx} {e : Expr} {te : TE} {p p2 pos pos2 : Pos} (hc : X.calm = true) (hg : Gl X "list") (hm : X.mg "list" = none) (hg2 : Gl X "reversed") (hm2 : X.mg "reversed" = none) (he : PE X e te)
    (hs : starEach [e] X.env = (false, eval e X.env) :: starEach [] X.env := by rfl)
    (hs2 : starEach [.Call (.Name "reversed" p2) [e] [] pos2] X.env = (false, eval (.Call (.Name "reversed" p2) [e] [] pos2) X.env) :: starEach [] X.env := by rfl) :
    PE X (.Call (.Name "list" p) [.Call (.Name "reversed" p2) [e] [] pos2] [] pos) (tListRev te) := by
  refine ⟨fun pins s σ H Q I h => ?_⟩
  refine Call_ (ld_blt I hg hm boot_list (PyProof.Rows.callWith_type1 (args_cons (Call_ (ld_blt I hg2 hm2 PyProof.Rows.boot_reversed (PyProof.Rows.callWith_type1 (args_cons (thn (he.run pins s σ H _ I h) fun u s1 ⟨v, H1, I1, r1, q1⟩ => args_nil ?_) hs) hs rfl))) hs2) hs2 rfl))
  obtain ⟨a, xs, ev, hq, q⟩ := q1
  subst ev
  obtain rfl : u = Value.ref a := r1
  obtain ⟨its, rv, pl, hz⟩ := I1.list (SqL.of hq)
  refine call_reversed_list pl.isList (args_nil ?_)
  have up : ∀ b o, s1.heap.get? b = some o → (s1.heap.push (revObj a ((its.toArray.size : Int) - 1))).get? b = some o := fun b o z => Heap.get?_push_of_some _ z
  have I2 : Inv X pins σ H1 { s1 with heap := s1.heap.push (revObj a ((its.toArray.size : Int) - 1)) } := I1.kept (t' := s1.toks) up
  obtain ⟨f0, f1, f2, f3, f4, f5⟩ := I1.fpOk (H' := H1) (b := s1.heap.objs.size) (Nat.le_refl _) (I1.hok.fresh (Nat.le_refl _))
  have isl := pl.isList
  obtain ⟨ol, hol, _⟩ := id isl
  have ne : a ≠ s1.heap.objs.size := Nat.ne_of_lt (Heap.lt_size hol)
  have small : its.toArray.size ≤ sizeLine := by rw [List.size_toArray, ← rv.length]; exact hz
  refine call_list_rev (s := { s1 with heap := s1.heap.push (revObj a ((its.toArray.size : Int) - 1)) }) (I1.ok.hd hc) ⟨_, Heap.get?_push_size _ rfl, rfl, rfl⟩ (isl.push _) ne small fun s2 acc c' mv hS hi => ?_
  have sz : (s1.heap.push (revObj a ((its.toArray.size : Int) - 1))).objs.size = s1.heap.objs.size + 1 := Heap.size_push ..
  have keep : ∀ b o, b ∉ [s1.heap.objs.size] → s1.heap.get? b = some o → s2.heap.get? b = some o := fun b o nb z => by
    have lt := Heap.lt_size z
    refine mv.heap b o (fun y => ?_) (Heap.get?_push_of_some _ (up b o z))
    rcases List.mem_cons.mp y with y | y
    · have y : b = (s1.heap.push (revObj a ((its.toArray.size : Int) - 1))).objs.size := y
      rw [sz] at y
      have lt : b < s1.heap.objs.size := lt
      exact absurd lt (by rw [y]; exact Nat.not_lt.mpr (Nat.le_succ _))
    · exact nb y
  have I3 : Inv X pins σ (upd H1 (s1.heap.objs.size + 1) (.lst xs.reverse)) { s1 with heap := s2.heap, toks := s2.toks } := I1.turnedNew (t' := s2.toks) (ch := [s1.heap.objs.size]) keep (fun b m => by rw [List.mem_singleton.mp m]; exact ⟨f0, f1, f2, f3, f4, f5⟩) (Nat.le_succ _)
    ⟨by rw [List.length_reverse]; exact hz, acc.toList, c', RT.vals_rev rv hi, by rw [Array.toArray_toList, ← sz]; exact hS⟩
  have eS : s2 = { s1 with heap := s2.heap, toks := s2.toks } := by
    have z := Moved.eq_with mv
    rw [z]
  rw [eS]
  refine ⟨.ref (s1.heap.objs.size + 1), _, I3, ?_, q _ (I1.hok.fresh (Nat.le_succ _))⟩
  show Value.ref _ = Value.ref _
  exact congrArg Value.ref sz
end Cs
set_option maxHeartbeats 4000000
namespace Cs
open PySem PySem.Spec PyProof.Rows L2
/-! ### dicts over a walk -/
section
variable {J : It} {n : Nat} {G : Hp → Prop} {Y : Nat → Hp → V → Hp → Prop}
theorem dc_it (w : Walk J n G Y) {g : TG} {tt : TT} {tk tv : TE} {vs : List Nat} {σ : L2.St} {H1 : Hp} {D : Addr} {Qd : Hp → Prop} (Pv : Nat → Hp → Prop) (h0 : Pv 0 (upd H1 D (.dK []))) (hG : ∀ i H, i ≤ n → Pv i H → G H)
    (hs : ∀ i x H H', i < n → Pv i H → Y i H x H' → g x (wipe σ vs) H' fun σ2 H2 => wipe σ2 vs = wipe σ vs ∧ tt σ2 H2 fun b H3 =>
      if b = true then tk σ2 H3 fun y H4 => tv σ2 H4 fun z H5 => ∃ kvs k, y = kV k ∧ H5 D = some (.dK kvs) ∧ kvs.length < sizeLine ∧ Pv (i + 1) (upd H5 D (.dK (putK kvs k z))) else Pv (i + 1) H3) (hd : ∀ H, Pv n H → Qd H) :
    ∃ W : Nat → Nat → Hp → Prop, (∃ m, W 0 m (upd H1 D (.dK []))) ∧ ∀ i m H, W i m H →
      (J.stop i H ∧ Qd H) ∨ (J.go i H ∧ ∃ Nx : Hp → Prop, (∀ H', Nx H' → ∃ m', m' < m ∧ W (i + 1) m' H') ∧ ∀ x H', J.yld i H x H' → g x (wipe σ vs) H' fun σ2 H2 => wipe σ2 vs = wipe σ vs ∧ tt σ2 H2 fun b H3 =>
        if b = true then tk σ2 H3 fun y H4 => tv σ2 H4 fun z H5 => ∃ kvs k, y = kV k ∧ H5 D = some (.dK kvs) ∧ kvs.length < sizeLine ∧ Nx (upd H5 D (.dK (putK kvs k z))) else Nx H3) := by
  refine ⟨fun i m H => m = n - i ∧ i ≤ n ∧ Pv i H, ⟨n, rfl, Nat.zero_le _, h0⟩, ?_⟩
  rintro i m H ⟨rfl, hi, p⟩
  have q := hG i H hi p
  by_cases l : i < n
  · exact .inr ⟨w.goes i H l q, Pv (i + 1), fun H' p' => ⟨n - (i + 1), by omega, rfl, l, p'⟩, fun x H' y => hs i x H H' l p (w.yields i H x H' l q y)⟩
  · obtain rfl : i = n := by omega
    exact .inl ⟨w.stops H q, hd H p⟩
end
section
variable {α β γ : Type} {W : Wd} {K : PySem.W.Frag} {ta tb tc tk tv : TE} {t : Ty α} {u : Ty β} {x x' : α} {y : β} {tt uu : TT} {ar : TA} {fs : List SF} {i j : Int} {E : XK} {ts us : TS} {D : Ends} {z z' : Str} {g : TG} {as : α → List (Nat × SF)} {wi : TI}
theorem keys_put {ks : List Str} {kvs : List (Key × V)} {z : Str} {v : V} (h : ∀ z : Str, (valV kvs (Sum.inr z)).isSome = decide (z ∈ ks)) : ∀ y : Str, (valV (putK kvs (Sum.inr z) v) (Sum.inr y)).isSome = decide (y ∈ ks ++ [z]) := fun y => by
  rw [valV_put]
  by_cases e : y = z
  · subst e
    rw [if_pos rfl]
    simp
  · rw [if_neg (fun q => e (Sum.inr.inj q)), h y]
    rw [Bool.eq_iff_iff, decide_eq_true_iff, decide_eq_true_iff]
    simp [e]
theorem len_put {kvs : List (Key × V)} {n : Nat} {k : Key} {v : V} (h : kvs.length ≤ n) : (putK kvs k v).length ≤ n + 1 := Nat.le_trans (length_putK _ _ _) (by omega)
/-- known = {f(x): e for x in xs}, used as a set of names -/
theorem go_dc {xs : List α} {f : α → Str} {vs : List Nat} {n : Nat} (h : Iv W wi t xs) (tg : Tgt g t as) (hi : ∀ x, ∀ p ∈ as x, p.1 ∈ vs) (hl : xs.length < sizeLine)
    (hk : ∀ D φ F x, (∀ f ∈ W.F, f ∈ F) → x ∈ xs → Ev ((W.el D φ F vs).puts (as x)) tk tSt (f x))
    (hv : ∀ D φ F x, (∀ f ∈ W.F, f ∈ F) → x ∈ xs → ∃ b, Ev ((W.el D φ F vs).puts (as x)) tv tBl b)
    (k : ∀ p, Go ⟨W.H0, W.M, p :: W.S, cell p (cKeys (xs.map f)) :: W.L, W.F, W.G.set n (some (tRf.is p))⟩ us D) (hp : ∀ (W : Wd) x, (W.puts (as x)).H0 = W.H0 ∧ (W.puts (as x)).M = W.M ∧ (W.puts (as x)).S = W.S ∧ (W.puts (as x)).L = W.L ∧ (W.puts (as x)).F = W.F := by intros; exact ⟨rfl, rfl, rfl, rfl, rfl⟩) :
    Go W (tSeq (tAsg (tDc wi g tYes tk tv vs) (gName n)) us) D := fun σ H o => by
  refine h σ H o _ fun J H1 f0 g1 fp wk => ?_
  intro D nD
  obtain ⟨Y, wY, hY⟩ := wk.ex
  let Wk : Nat → Wd := fun k => ⟨W.H0, W.M, D :: W.S, cell D (cKeys ((xs.take k).map f)) :: W.L, f0 :: W.F, W.G⟩
  have start : Ok (Wk 0) σ (upd H1 D (.dK [])) := by
    obtain ⟨o1, up⟩ := g1.ok.cell (ψ := cKeys ([] : List Str)) nD ⟨[], rfl, Nat.le_refl _, fun _ => rfl⟩
    exact Ok.know o1 (f := f0) (f0.mono up fp)
  have ff : ∀ k H, Ok (Wk k) σ H → f0.p (hid (D :: W.S) H) := fun k H o => o.facts f0 (List.mem_cons_self ..)
  refine dc_it wY (fun k H' => Ok (Wk k) σ H') start (fun k H' _ o' => ⟨_, ff k H' o'⟩) ?_ ?_
  · rintro k v H0' H' hk' o' y
    obtain ⟨e, x, hx, rx⟩ := hY k H0' v H' _ hk' (ff k H0' o') o'.al y
    have o' := o'.same e
    have xm := List.mem_of_getElem? hx
    have sub : ∀ q ∈ W.F, q ∈ f0 :: W.F := fun q m => List.mem_cons_of_mem _ m
    refine tg _ _ H' v x (Ok.wipe (vs := vs) o') rx _ fun σ' oe ew => ?_
    refine ⟨by rw [ew vs (hi x), wipe_twice], ?_⟩
    have back : ∀ H2, Go1 (((W.el D (cKeys ((xs.take k).map f)) (f0 :: W.F) vs).puts (as x))) σ' H' H2 → Ok (Wk k) σ H2 := fun H2 g2 => by
      obtain ⟨p1, p2, p3, p4, p5⟩ := hp (W.el D (cKeys ((xs.take k).map f)) (f0 :: W.F) vs) x
      have o2 := g2.ok
      have up := g2.up
      rw [p3] at up
      have o3 : Ok { Wk k with G := ((W.el D (cKeys ((xs.take k).map f)) (f0 :: W.F) vs).puts (as x)).G } σ' H2 := by
        have : ((W.el D (cKeys ((xs.take k).map f)) (f0 :: W.F) vs).puts (as x)) = { Wk k with G := ((W.el D (cKeys ((xs.take k).map f)) (f0 :: W.F) vs).puts (as x)).G } := by
          generalize ((W.el D (cKeys ((xs.take k).map f)) (f0 :: W.F) vs).puts (as x)) = Z at p1 p2 p3 p4 p5 ⊢
          cases Z
          cases p1; cases p2; cases p3; cases p4; cases p5
          rfl
        rw [← this]
        exact o2
      exact Ok.swap (W := Wk k) o' o3 up
    dsimp only [tYes]
    rw [if_pos rfl]
    refine hk D _ _ x sub xm _ _ oe _ fun y H2 g2 ry => ?_
    obtain ⟨b, hb⟩ := hv D (cKeys ((xs.take k).map f)) (f0 :: W.F) x sub xm
    refine hb _ _ g2.ok _ fun w H3 g3 _ => ?_
    have o3 := back H3 (g2.trans g3)
    obtain ⟨ob, hob, kvs, rfl, hlen, hkeys⟩ := o3.at_ _ (List.mem_cons_self ..)
    have hlen' : kvs.length ≤ k := Nat.le_trans hlen (by rw [List.length_map, List.length_take]; omega)
    refine ⟨kvs, Sum.inr (f x), ry, hob, by omega, ?_⟩
    have e3 : (xs.take (k + 1)).map f = (xs.take k).map f ++ [f x] := by rw [take_snoc hx, List.map_append]; rfl
    exact (o3.write (ψ := cKeys ((xs.take (k + 1)).map f)) (o := .dK (putK kvs (Sum.inr (f x)) w)) rfl ⟨_, rfl, by rw [e3, List.length_append]; exact len_put hlen, by rw [e3]; exact keys_put hkeys⟩).ok
  · intro H' o2
    have e : xs.take xs.length = xs := List.take_length
    have o3 : Ok ⟨W.H0, W.M, D :: W.S, cell D (cKeys (xs.map f)) :: W.L, f0 :: W.F, W.G⟩ σ H' := by
      have : Ok (Wk xs.length) σ H' := o2
      have e2 : Wk xs.length = ⟨W.H0, W.M, D :: W.S, cell D (cKeys (xs.map f)) :: W.L, f0 :: W.F, W.G⟩ := by
        show (⟨W.H0, W.M, D :: W.S, cell D (cKeys ((xs.take xs.length).map f)) :: W.L, f0 :: W.F, W.G⟩ : Wd) = _
        rw [e]
      rw [e2] at this
      exact this
    have o4 : Ok ⟨W.H0, W.M, D :: W.S, cell D (cKeys (xs.map f)) :: W.L, W.F, W.G⟩ σ H' := ⟨o3.nod, o3.own, o3.at_, o3.ms, o3.al, o3.bt, o3.len, fun q m => o3.facts q (List.mem_cons_of_mem _ m), o3.slots⟩
    exact k D _ _ (Ok.put (i := n) (f := tRf.is D) o4 rfl)
/-- a name in such a dict -/
theorem et_inK {s : Nat} {p : Addr} {ks : List Str} (hs : W.G[s]? = some (some (tRf.is p))) (hL : cell p (cKeys ks) ∈ W.L) (ha : Ev W ta tSt z) : Et W (tB (tDIn ta (tVar s))) (decide (z ∈ ks)) := fun σ H o Q q =>
  ha σ H o _ fun v H1 g1 r1 => by
    obtain ⟨w, h1, rfl⟩ := g1.ok.slots s _ hs
    obtain ⟨ob, hob, kvs, rfl, _, hk⟩ := g1.ok.at_ _ hL
    refine ⟨.ref p, h1, p, valV kvs (Sum.inr z), rfl, ?_, _, rfl, ?_⟩
    · rw [show v = kV (Sum.inr z) from r1]
      exact DGet.k hob
    · rw [hk]
      exact q H1 g1
theorem et_niK {s : Nat} {p : Addr} {ks : List Str} (hs : W.G[s]? = some (some (tRf.is p))) (hL : cell p (cKeys ks) ∈ W.L) (ha : Ev W ta tSt z) : Et W (tB (tDNotIn ta (tVar s))) (!decide (z ∈ ks)) := fun σ H o Q q =>
  ha σ H o _ fun v H1 g1 r1 => by
    obtain ⟨w, h1, rfl⟩ := g1.ok.slots s _ hs
    obtain ⟨ob, hob, kvs, rfl, _, hk⟩ := g1.ok.at_ _ hL
    refine ⟨.ref p, h1, p, valV kvs (Sum.inr z), rfl, ?_, _, rfl, ?_⟩
    · rw [show v = kV (Sum.inr z) from r1]
      exact DGet.k hob
    · rw [hk]
      exact q H1 g1
/-- fallen[name] = e -/
theorem go_putK {s : Nat} {p : Addr} {ks : List Str} {R : List RS} (hs : W.G[s]? = some (some (tRf.is p))) (hL : W.L.Perm (cell p (cKeys ks) :: R)) (ha : Ev W ta tSt z) (hb : Ev W tb t x) (hl : ks.length < sizeLine) (k : ∀ σ H, Ok { W with L := cell p (cKeys (ks ++ [z])) :: R } σ H → D.nx σ H) : Go W (sDPut (tVar s) ta tb) D := fun σ H o =>
  hb σ H o _ fun v H1 g1 r1 => by
    obtain ⟨w, h1, rfl⟩ := g1.ok.slots s _ hs
    refine ⟨.ref p, h1, ha σ H1 g1.ok _ fun y H2 g2 ry => ?_⟩
    obtain ⟨ob, hob, kvs, rfl, hlen, hk⟩ := g2.ok.at_ (cell p (cKeys ks)) (hL.mem_iff.mpr (List.mem_cons_self ..))
    refine ⟨p, _, rfl, ?_, k _ _ ((g2.ok.perm hL).write (ψ := cKeys (ks ++ [z])) (o := .dK (putK kvs (Sum.inr z) v)) rfl ⟨_, rfl, by rw [List.length_append]; exact len_put hlen, keys_put hk⟩).ok⟩
    rw [show y = kV (Sum.inr z) from ry]
    exact DPut.k hob (by omega)
/-! ### while -/
theorem go_while {ι : Type} (J : ι → Wd) (Pv : ι → Prop) (μ : ι → Nat) (c0 : ι) (p0 : Pv c0) (w0 : Wk W (J c0)) (hs : ∀ c, Pv c → ∃ b, Et (J c) tt b ∧ (b = true → Go (J c) ts { D with nx := fun σ H => ∃ c', Pv c' ∧ μ c' < μ c ∧ Ok (J c') σ H, ct := fun σ H => ∃ c', Pv c' ∧ μ c' < μ c ∧ Ok (J c') σ H, bk := D.nx }) ∧ (b = false → ∀ σ H, Ok (J c) σ H → D.nx σ H)) :
    Go W (tWhile tt ts) D := fun σ H o => by
  refine ⟨fun m σ H => ∃ c, Pv c ∧ m = μ c ∧ Ok (J c) σ H, ⟨μ c0, c0, p0, rfl, w0 σ H o⟩, ?_⟩
  rintro m σ H ⟨c, pc, rfl, o'⟩
  obtain ⟨b, hb, h1, h2⟩ := hs c pc
  refine hb σ H o' _ fun H1 g1 => ?_
  cases b with
  | true => exact ⟨fun σ' H' => ∃ c', Pv c' ∧ μ c' < μ c ∧ Ok (J c') σ' H', fun σ' H' ⟨c', a1, a2, a3⟩ => ⟨μ c', a2, c', a1, rfl, a3⟩, h1 rfl σ H1 g1.ok⟩
  | false => exact h2 rfl σ H1 g1.ok
/-! ### numbers and texts -/
theorem ev_shl (ha : Ev W ta tInt i) (hb : Ev W tb tInt j) (c : CPow i j) : Ev W (tOp (rI CPow fun i j => .int (i * 2 ^ j.toNat)) ta tb) tInt (i * 2 ^ j.toNat) := fun σ H o Q q =>
  ha σ H o _ fun v H1 g1 r1 => hb σ H1 g1.ok _ fun v2 H2 g2 r2 => ⟨i, j, r1, r2, c, q _ H2 (g1.trans g2) rfl⟩
theorem ev_ixS {n : Int} {c : Nat} (ha : Ev W ta tSt z) (hb : Ev W tb tInt n) (hl : z.length ≤ sizeLine) (e : atI z.cps.toList n = some c) : Ev W (tOp rIxS ta tb) tSt ⟨#[c]⟩ := fun σ H o Q q =>
  ha σ H o _ fun v H1 g1 r1 => hb σ H1 g1.ok _ fun v2 H2 g2 r2 => ⟨z, n, c, r1, r2, hl, e, q _ H2 (g1.trans g2) rfl⟩
theorem ev_listRev {xs : List α} (h : Ev W ta (tLs K t) xs) : Ev W (tListRev ta) (tLs K t) xs.reverse := fun σ H o Q q => h σ H o _ fun v H1 g1 ⟨p, vs, e, s, al⟩ =>
  ⟨p, vs, e, hid_sub _ _ s, fun l nl => q _ _ (g1.trans (g1.ok.new nl)) ⟨l, vs.reverse, rfl, by rw [hid_of (g1.ok.off nl)]; exact upd_same, by
    have rev : ∀ {r : V → α → Prop} (vs : List V) (xs : List α), All2 r vs xs → All2 r vs.reverse xs.reverse := by
      intro r vs
      induction vs with
      | nil => intro xs h; cases xs with
        | nil => exact trivial
        | cons _ _ => exact h.elim
      | cons v vs ih => intro xs h; cases xs with
        | nil => exact h.elim
        | cons x xs =>
          rw [List.reverse_cons, List.reverse_cons]
          exact (ih xs h.2).app (ws := [v]) (ys := [x]) ⟨h.1, trivial⟩
    exact rev _ _ (All2.mono (fun _ _ => t.mono (g1.ok.new nl).up) al)⟩⟩
end
end Cs
set_option maxHeartbeats 4000000
namespace Cs
open PySem PySem.Spec PyProof.Rows L2
/-! ### slots that are forgotten -/
def Sb : List (Option SF) → List (Option SF) → Prop
  | [], [] => True
  | _ :: G, none :: G' => Sb G G'
  | a :: G, some f :: G' => a = some f ∧ Sb G G'
  | _, _ => False
theorem Sb.len : ∀ {G G' : List (Option SF)}, Sb G G' → G.length = G'.length
  | [], [], _ => rfl
  | _ :: G, none :: G', h => by
    have q : Sb G G' := h
    simp [Sb.len q]
  | _ :: _, some _ :: _, h => by simp [Sb.len h.2]
  | [], _ :: _, h => h.elim
  | _ :: _, [], h => h.elim
theorem Sb.get : ∀ {G G' : List (Option SF)} {i : Nat} {f : SF}, Sb G G' → G'[i]? = some (some f) → G[i]? = some (some f)
  | [], [], _, _, _, q => by simp at q
  | _ :: _, none :: _, 0, _, _, q => by simp at q
  | _ :: G, none :: G', i + 1, f, h, q => by
    have h' : Sb G G' := h
    have q' : G'[i]? = some (some f) := q
    show G[i]? = some (some f)
    exact Sb.get h' q'
  | a :: _, some g :: _, 0, f, h, q => by
    obtain ⟨e, _⟩ := h
    subst e
    simpa using q
  | _ :: G, some _ :: G', i + 1, f, h, q => by
    have q' : G'[i]? = some (some f) := q
    show G[i]? = some (some f)
    exact Sb.get h.2 q'
  | [], _ :: _, _, _, h, _ => h.elim
  | _ :: _, [], _, _, h, _ => h.elim
theorem Ok.sb {H0 : Hp} {M S : List Addr} {L : List RS} {F F' : List FF} {G G' : List (Option SF)} {σ : L2.St} {H : Hp} (o : Ok ⟨H0, M, S, L, F, G⟩ σ H) (h : Sb G G') (hF : ∀ f, f ∈ F' → f ∈ F := by first | (intro f m; exact m) | (intro f m; cases m) | (intro f m; exact List.mem_cons_of_mem _ m)) : Ok ⟨H0, M, S, L, F', G'⟩ σ H :=
  Wk.of (H0 := H0) (M := M) (S := S) (L := L) h.len (fun i f q => h.get q) hF σ H o
theorem go_at {W : Wd} {σ : L2.St} {H : Hp} {ts : TS} {D : Ends} (o : Ok W σ H) (h : Go W ts D) : ts D σ H := h σ H o
theorem ev_fracI {W : Wd} {K : PySem.W.Frag} {ta : TE} {n : Int} (ha : Ev W ta tInt n) : Ev W (tTup (tCons ta (tCons (tC (.int 1)) tNil))) (tFr K) (n : Rat) := ev_frac ha ev_int rfl rfl
/-! ### sums -/
theorem zr {n : Nat} {x : Rat} (h : Sz n x) {m : Nat} (k : n ≤ m) : Sz m x := h.mono k
def rsum (rs : List Rat) : Rat := rs.foldl (fun x y => x + y) 0
def rpre (rs : List Rat) (i : Nat) : Rat := rsum (rs.take i)
theorem rpre_zero (rs : List Rat) : rpre rs 0 = 0 := rfl
theorem rpre_succ {rs : List Rat} {i : Nat} {r : Rat} (h : rs[i]? = some r) : rpre rs (i + 1) = rpre rs i + r := by
  unfold rpre rsum
  rw [take_snoc h, List.foldl_append]
  rfl
theorem rpre_all (rs : List Rat) : rpre rs rs.length = rsum rs := by unfold rpre; rw [List.take_length]
theorem sz_addN {n m : Nat} {r s : Rat} (h : Sz n r) (g : Sz m s) : Sz (n + m + 1) (r + s) := by
  rw [← add_div]
  exact sz_div (Int.mul_ne_zero (den_ne r) (den_ne s)) (add_lt (pow_lt h.nn g.dd) (by rw [Nat.add_comm n m]; exact pow_lt g.nn h.dd)) (Nat.lt_trans (pow_lt h.dd g.dd) (Nat.pow_lt_pow_right (by decide) (by omega)))
theorem sz_mulN {n m : Nat} {r s : Rat} (h : Sz n r) (g : Sz m s) : Sz (n + m) (r * s) := by
  rw [← mul_div]
  exact sz_div (Int.mul_ne_zero (den_ne r) (den_ne s)) (pow_lt h.nn g.nn) (pow_lt h.dd g.dd)
theorem rpre_sz {rs : List Rat} {n : Nat} (h : ∀ r ∈ rs, Sz n r) : ∀ i, i ≤ rs.length → Sz ((n + 1) * i + 1) (rpre rs i)
  | 0, _ => by rw [rpre_zero]; exact sz_zero (by omega)
  | i + 1, hi => by
    have hx : rs[i]? = some rs[i] := List.getElem?_eq_getElem (by omega)
    rw [rpre_succ hx]
    have := sz_addN (rpre_sz h i (by omega)) (h _ (List.getElem_mem (by omega : i < rs.length)))
    refine this.mono ?_
    rw [Nat.mul_succ]
    omega
theorem rsum_sz {rs : List Rat} {n : Nat} (h : ∀ r ∈ rs, Sz n r) : Sz ((n + 1) * rs.length + 1) (rsum rs) := by
  have := rpre_sz h rs.length (Nat.le_refl _)
  rwa [rpre_all] at this
theorem foldl_add (rs : List Rat) : ∀ a : Rat, rs.foldl (fun x y => x + y) a = a + rs.foldl (fun x y => x + y) 0 := by
  induction rs with
  | nil => intro a; show a = a + 0; grind
  | cons r rs ih =>
    intro a
    show rs.foldl _ (a + r) = a + rs.foldl _ (0 + r)
    rw [ih (a + r), ih (0 + r)]
    grind
theorem rsum_cons (r : Rat) (rs : List Rat) : rsum (r :: rs) = r + rsum rs := by
  show rs.foldl _ (0 + r) = _
  rw [foldl_add]
  show 0 + r + rsum rs = _
  grind
theorem rsum_nil : rsum [] = 0 := rfl
theorem rsum_app (a b : List Rat) : rsum (a ++ b) = rsum a + rsum b := by
  induction a with
  | nil => show rsum b = 0 + rsum b; grind
  | cons x a ih => rw [List.cons_append, rsum_cons, rsum_cons, ih]; grind
theorem rsum_perm {a b : List Rat} (h : a.Perm b) : rsum a = rsum b := by
  induction h with
  | nil => rfl
  | cons x _ ih => rw [rsum_cons, rsum_cons, ih]
  | swap x y l => rw [rsum_cons, rsum_cons, rsum_cons, rsum_cons]; grind
  | trans _ _ h1 h2 => exact h1.trans h2
theorem rsum_nn {a : List Rat} (h : ∀ x ∈ a, 0 ≤ x) : 0 ≤ rsum a := by
  induction a with
  | nil => show (0 : Rat) ≤ 0; grind
  | cons x a ih =>
    rw [rsum_cons]
    have := h x (List.mem_cons_self ..)
    have := ih fun y m => h y (List.mem_cons_of_mem _ m)
    grind
/-- more items, a greater sum -/
theorem rsum_sub {a b : List Rat} (h : a.Sublist b) (nn : ∀ x ∈ b, 0 ≤ x) : rsum a ≤ rsum b := by
  induction h with
  | slnil => show (0 : Rat) ≤ 0; grind
  | cons x _ ih =>
    rw [rsum_cons]
    have := nn x (List.mem_cons_self ..)
    have := ih fun y m => nn y (List.mem_cons_of_mem _ m)
    grind
  | cons_cons x _ ih =>
    rw [rsum_cons, rsum_cons]
    have := ih fun y m => nn y (List.mem_cons_of_mem _ m)
    grind
/-! ### bonds -/
structure Bd where
  name : Str
  issuer : Str
  units : Int
  face : Rat
  cross : Option Rat
structure BdOk (b : Bd) : Prop where
  u0 : 0 ≤ b.units
  u1 : b.units < 1000
  f0 : 0 ≤ b.face
  fs : Sz 10 b.face
  cs : ∀ c, b.cross = some c → Sz 10 c
def sizeB (b : Bd) : Rat := (b.units : Rat) * b.face
theorem sizeB_sz {b : Bd} (h : BdOk b) : Sz 20 (sizeB b) := by
  have : Sz 10 (b.units : Rat) := Sz.int (by have := h.u0; have := h.u1; show b.units.natAbs < 1024; omega) (by decide)
  exact sz_mulN this h.fs
theorem sizeB_nn {b : Bd} (h : BdOk b) : 0 ≤ sizeB b := by
  have h1 : (0 : Rat) ≤ (b.units : Rat) := by exact_mod_cast h.u0
  exact Rat.mul_nonneg h1 h.f0
/-- what the others that are in default weigh on a bond -/
def load (b : Bd) (others : List Bd) : Rat := rsum ((others.filter fun o => decide (o.issuer = b.issuer)).map sizeB)
def boundB (b : Bd) (others : List Bd) : Bool := match b.cross with
  | none => false
  | some c => decide (0 < cmpR (load b others) c)
theorem cmpR_pos {r s : Rat} : 0 < cmpR r s ↔ s < r := by
  have h3 := cmpR_three r s
  rw [← cmpR_gt]
  omega
theorem boundB_iff {b : Bd} {others : List Bd} : boundB b others = true ↔ ∃ c, b.cross = some c ∧ c < load b others := by
  unfold boundB
  cases h : b.cross with
  | none => simp
  | some c => simp [cmpR_pos]
theorem filter_sub {α : Type} {p q : α → Bool} (h : ∀ x, p x = true → q x = true) : ∀ l : List α, (l.filter p).Sublist (l.filter q)
  | [] => List.Sublist.refl _
  | x :: l => by
    have ih := filter_sub h l
    cases hp : p x with
    | true => rw [List.filter_cons_of_pos hp, List.filter_cons_of_pos (h x hp)]; exact ih.cons_cons x
    | false =>
      rw [List.filter_cons_of_neg (by rw [hp]; decide)]
      cases hq : q x with
      | true => rw [List.filter_cons_of_pos hq]; exact ih.cons x
      | false => rw [List.filter_cons_of_neg (by rw [hq]; decide)]; exact ih
def inN (ks : List Str) (bs : List Bd) : List Bd := bs.filter fun b => decide (b.name ∈ ks)
def Closed (bs : List Bd) (ex T : List Str) : Prop := ∀ b ∈ bs, b.name ∉ T → b.name ∉ ex → boundB b (inN T bs) = false
theorem load_mono {b : Bd} {bs : List Bd} {T U : List Str} (ok : ∀ b ∈ bs, BdOk b) (h : ∀ z, z ∈ T → z ∈ U) : load b (inN T bs) ≤ load b (inN U bs) := by
  unfold load inN
  refine rsum_sub (List.Sublist.map _ ?_) fun x m => ?_
  · rw [List.filter_filter, List.filter_filter]
    refine filter_sub (fun o ho => ?_) _
    simp only [Bool.and_eq_true, decide_eq_true_eq] at ho ⊢
    exact ⟨ho.1, h _ ho.2⟩
  · obtain ⟨o, m1, rfl⟩ := List.mem_map.mp m
    exact sizeB_nn (ok o (List.mem_filter.mp (List.mem_filter.mp m1).1).1)
theorem boundB_mono {b : Bd} {bs : List Bd} {T U : List Str} (ok : ∀ b ∈ bs, BdOk b) (h : ∀ z, z ∈ T → z ∈ U) (q : boundB b (inN T bs) = true) : boundB b (inN U bs) = true := by
  obtain ⟨c, e, l⟩ := boundB_iff.mp q
  exact boundB_iff.mpr ⟨c, e, by have := load_mono (b := b) ok h; grind⟩
/-- the least closed set -/
structure Least (bs : List Bd) (ow ex ks : List Str) : Prop where
  own : ∀ z, z ∈ ow → z ∈ ks
  cl : Closed bs ex ks
  least : ∀ T, (∀ z, z ∈ ow → z ∈ T) → Closed bs ex T → ∀ z, z ∈ ks → z ∈ T
theorem inN_perm {bs cs : List Bd} (h : bs.Perm cs) (T : List Str) : (inN T bs).Perm (inN T cs) := h.filter _
theorem load_perm {b : Bd} {os us : List Bd} (h : os.Perm us) : load b os = load b us := rsum_perm ((h.filter _).map _)
theorem boundB_perm {b : Bd} {os us : List Bd} (h : os.Perm us) : boundB b os = boundB b us := by
  unfold boundB
  cases b.cross with
  | none => rfl
  | some c => rw [load_perm h]
theorem Closed.perm {bs cs : List Bd} (h : bs.Perm cs) {ex T : List Str} (c : Closed bs ex T) : Closed cs ex T := fun b m h1 h2 => by
  rw [← boundB_perm (inN_perm h T)]
  exact c b (h.mem_iff.mpr m) h1 h2
theorem Least.mem_iff {bs cs : List Bd} {own own' ex ks ks' : List Str} (hp : bs.Perm cs) (ho : ∀ z, z ∈ own ↔ z ∈ own') (l : Least bs own ex ks) (l' : Least cs own' ex ks') (z : Str) : z ∈ ks ↔ z ∈ ks' :=
  ⟨fun m => l.least ks' (fun y q => l'.own y ((ho y).mp q)) (l'.cl.perm hp.symm) z m, fun m => l'.least ks (fun y q => l.own y ((ho y).mpr q)) (l.cl.perm hp) z m⟩
/-- one turn: those that are bound are added -/
def bnd (bs : List Bd) (ex ks : List Str) : List Str := (((bs.filter fun b => !decide (b.name ∈ ks) && !decide (b.name ∈ ex)).filter fun b => boundB b (inN ks bs))).map Bd.name
theorem bnd_new {bs : List Bd} {ex ks : List Str} {z : Str} (h : z ∈ bnd bs ex ks) : ∃ b ∈ bs, b.name = z ∧ b.name ∉ ks ∧ b.name ∉ ex ∧ boundB b (inN ks bs) = true := by
  obtain ⟨b, m, rfl⟩ := List.mem_map.mp h
  obtain ⟨m1, m2⟩ := List.mem_filter.mp m
  obtain ⟨m3, m4⟩ := List.mem_filter.mp m1
  simp only [Bool.and_eq_true, Bool.not_eq_true', decide_eq_false_iff_not] at m4
  exact ⟨b, m3, rfl, m4.1, m4.2, m2⟩
theorem bnd_closed {bs : List Bd} {ex ks : List Str} (h : bnd bs ex ks = []) : Closed bs ex ks := fun b m h1 h2 => by
  cases q : boundB b (inN ks bs) with
  | false => rfl
  | true =>
    have : b.name ∈ bnd bs ex ks := List.mem_map.mpr ⟨b, List.mem_filter.mpr ⟨List.mem_filter.mpr ⟨m, by simp [h1, h2]⟩, q⟩, rfl⟩
    rw [h] at this; cases this
theorem bnd_least {bs : List Bd} {ex ks T : List Str} (ok : ∀ b ∈ bs, BdOk b) (hk : ∀ z, z ∈ ks → z ∈ T) (c : Closed bs ex T) : ∀ z, z ∈ bnd bs ex ks → z ∈ T := fun z m => by
  obtain ⟨b, mb, rfl, h1, h2, h3⟩ := bnd_new m
  by_cases q : b.name ∈ T
  · exact q
  · have := c b mb q h2
    rw [boundB_mono ok hk h3] at this
    cases this
/-- how many bonds are not yet in -/
def left (bs : List Bd) (ks : List Str) : Nat := (bs.filter fun b => !decide (b.name ∈ ks)).length
theorem left_lt {bs : List Bd} {ex ks : List Str} (h : bnd bs ex ks ≠ []) : left bs (ks ++ bnd bs ex ks) < left bs ks := by
  obtain ⟨z, m⟩ : ∃ z, z ∈ bnd bs ex ks := by
    cases q : bnd bs ex ks with
    | nil => exact absurd q h
    | cons z _ => exact ⟨z, List.mem_cons_self ..⟩
  obtain ⟨b, mb, rfl, h1, _, _⟩ := bnd_new m
  unfold left
  have sub : ((bs.filter fun b => !decide (b.name ∈ ks ++ bnd bs ex ks))).Sublist (bs.filter fun b => !decide (b.name ∈ ks)) := filter_sub (fun o ho => by
    simp only [Bool.not_eq_true', decide_eq_false_iff_not] at ho ⊢
    exact fun z => ho (List.mem_append_left _ z)) _
  rcases Nat.lt_or_ge ((bs.filter fun b => !decide (b.name ∈ ks ++ bnd bs ex ks)).length) ((bs.filter fun b => !decide (b.name ∈ ks)).length) with q | q
  · exact q
  · have e := sub.eq_of_length_le q
    have : b ∈ bs.filter fun b => !decide (b.name ∈ ks) := List.mem_filter.mpr ⟨mb, by simp [h1]⟩
    rw [← e] at this
    have := (List.mem_filter.mp this).2
    simp [m] at this
theorem left_le (bs : List Bd) (ks : List Str) : left bs ks ≤ bs.length := List.length_filter_le ..
theorem bnd_len (bs : List Bd) (ex ks : List Str) : (bnd bs ex ks).length ≤ bs.length := by
  unfold bnd
  rw [List.length_map]
  exact Nat.le_trans (List.length_filter_le ..) (List.length_filter_le ..)
end Cs
set_option maxHeartbeats 4000000
namespace Cs
open PySem PySem.Spec PyProof.Rows L2
section
variable {X : Cx} {k : Nat} {x : Str} {ps : List Str} {sp : Sp} {p pos : Pos} {e : Expr} {es : List Expr} {t : TA}
/-- a def that may be called with its last argument left out -/
def CalD (P : Program) (w : World) (K : PySem.W.Frag) (mg : Str → Option Value) (base : Heap) (k : Nat) (x : Str) (ps : List Str) (dvs : List V) (sp : Sp) : Prop :=
  ∃ (f : Addr) (fd : FuncData) (ds : List Value), FnOk P w K mg base CX0 k f fd ps sp ∧ mg x = some (.ref f) ∧ PySem.W.keepIn K (.ref f) = true ∧ Binds K fd ps ds ∧ Vals dvs ds
theorem CalD.mono {P : Program} {w : World} {K : PySem.W.Frag} {mg : Str → Option Value} {base : Heap} {j k : Nat} {dvs : List V} (c : CalD P w K mg base j x ps dvs sp) (h : j ≤ k) : CalD P w K mg base k x ps dvs sp := by
  obtain ⟨f, fd, ds, F, g⟩ := c
  exact ⟨f, fd, ds, F.mono h, g⟩
theorem pe_calD {dvs : List V} (c : CalD X.prog X.w X.K X.mg X.base k x ps dvs sp) (hr : Room k X.A) (hg : Gl X x) (ha : PA X (e :: es) t) (hdb : (x == ("__debug__" : Str)) = false := by decide)
    (he : starEach (e :: es) X.env = (false, eval e X.env) :: starEach es X.env := by rfl) (hpl : (backTo pos (starEach es X.env)).any (·.1) = false := by rfl) :
    PE X (.Call (.Name x p) (e :: es) [] pos) (tCall sp dvs E0 t) := by
  obtain ⟨f, fd, ds, F, g, kp, b, hd⟩ := c
  exact pe_call F hr hg g kp b hd pass0 ha hdb he hpl
end
/-! ### rules of a block, the written part told -/
section
variable {X : Cx} {K : PySem.W.Frag} {e : Expr} {ta : TE} {f : Str} {pos : Pos}
theorem pe_fldK (hk : X.K = K) (he : PE X e ta) (hb : attributeBase e f X.env (eval e X.env) = eval e X.env) : PE X (.Attribute e f pos) (tFld K ta f) := hk ▸ pe_fld he hb
theorem op_inK (hk : X.K = K) : OpR X (compareOp .In) (rIn K false) := hk ▸ op_in_seq
theorem op_niK (hk : X.K = K) : OpR X (compareOp .NotIn) (rIn K true) := hk ▸ op_notIn_seq
theorem op_eqDK (hk : X.K = K) (hu : X.A.units + 64 < cLine) : OpR X (compareOp .Eq) (rEqD K) := hk ▸ op_eqD hu
theorem op_neDK (hk : X.K = K) (hu : X.A.units + 64 < cLine) : OpR X (compareOp .NotEq) (rNeD K) := hk ▸ op_neD hu
theorem ix_lstK (h : X.K = K) : IxR X (rIxL K) := h ▸ ix_list
theorem ix_tupK (h : X.K = K) : IxR X (rIxT K) := h ▸ ix_tup
theorem pt_truthK (hk : X.K = K) {a : Expr} (ha : PE X a ta) (he : ∀ whole, isTrue a X.env whole = (do let v ← whole; standAt a.pos; holding [v] (truthy v))) : PT X a (fun σ H Q => ta σ H fun x H' => ∃ k, TruV K x H' k ∧ Q k H') := hk ▸ pt_truth ha he
end
/-! ### name = {..: .. for ..}, the name a local -/
section
variable {X : Cx}
theorem sw_trueD {kx vx : Expr} {gs : List Comprehension} {scope : Scope} {pos py : Pos} {y : Str} {l : Nat} {env : Env} (hk : env.scope.kind = .function) (hy : env.scope.names.lookup y = some .local) (hl : (py.line == pos.line) = true)
    (ha : (scope.names.any fun (n, k) => n == y && (k == .local || k == .cell)) = false) : swapsWith (.DictComp kx vx gs scope pos) (some (.Name y py)) l env = pure true := by
  have e1 : env.kindOf y = some .local := hy
  have e2 : env.blockKind = .function := by unfold Env.blockKind; rw [hk]; rfl
  unfold swapsWith
  simp only [e2, e1, ha, Expr.pos, hl] <;> rfl
theorem ps_setDc {i : Nat} {y : Str} {py : Pos} {kx vx tg iter : Expr} {ifs : List Expr} {scope : Scope} {own : List (Str × Nat)} {pos spos : Pos} {wi : TI} {g : TG} {tt : TT} {tk tv : TE} (hc : X.calm = true) (hN : X.N.Nodup) (hy : X.N[i]? = some y) (hyl : X.env.scope.names.lookup y = some .local)
    (hsw : swapsWith (.DictComp kx vx [⟨tg, iter, ifs, 0⟩] scope pos) (some (.Name y py)) spos.line X.env = pure true) (hi : PI X tg iter wi) (ok : BlkOk X.N X.env.scope scope own)
    (hg : ∀ (s : Shared) (H : Hp) (C : Addr) (cl : List (Str × Addr)) (fp : List Addr), PG (X.blk s H scope (compEnvC scope cl C X.env) fp) tg g) (ht : ∀ (s : Shared) (H : Hp) (C : Addr) (cl : List (Str × Addr)) (fp : List Addr), PTs (X.blk s H scope (compEnvC scope cl C X.env) fp) ifs tt)
    (hk : ∀ (s : Shared) (H : Hp) (C : Addr) (cl : List (Str × Addr)) (fp : List Addr), PE (X.blk s H scope (compEnvC scope cl C X.env) fp) kx tk)
    (he : ∀ (s : Shared) (H : Hp) (C : Addr) (cl : List (Str × Addr)) (fp : List Addr), PE (X.blk s H scope (compEnvC scope cl C X.env) fp) vx tv) (hs : ∀ x, foldedSetIterable iter X.env x = pure x := by intro _; rfl) :
    PS X (.Assign [.Name y py] (.DictComp kx vx [⟨tg, iter, ifs, 0⟩] scope pos) spos) (tAsg (tDc wi g tt tk tv (own.map (·.2))) (gName i)) := by
  refine ⟨fun pins s σ H D I h => ?_⟩
  rw [exec_Assign_Name_used _ _ _ _ hsw]
  refine wpAny_bind (wpAny_standAt (wpAny_bind ?_))
  show wpAny _ X.A (do let _ ← comprehension (.DictComp kx vx [⟨tg, iter, ifs, 0⟩] scope pos) scope X.env (firstIterPos [⟨tg, iter, ifs, 0⟩] pos) newDict false (eval iter X.env) (some (assign (.Name y py) X.env))) _ _ s
  have h : tDc wi g tt tk tv (own.map (·.2)) σ H (fun x H1 => gName i x σ H1 D.nx) := h
  refine wpAny_bind (thn (dc_core (Qf := fun _ s' => SP X pins D .next s') hc hN I hi ok hg ht hk he hs h fun L C s' m H' I' q hn f => ?_) fun _ s' hq => wpAny_pure (wpAny_pure hq))
  show wpAny _ _ (assign (.Name y py) X.env (.ref L)) _ _ _
  refine wpAny_assign_Name (store_ok2 (v := V.ref L) I' hN hy (.inl hyl) rfl (fun s2 I2 ⟨a, sb, ha⟩ => ?_) (.inr hyl))
  obtain ⟨f0, f1, f2, f3, f4, f5⟩ := f
  have ne : C ≠ a := ha.elim (fun z => by rw [z]; exact f1) fun z e => f4 y a z e.symm
  exact ⟨m, hn.sameBut sb ne, fun h3 sb3 => ⟨_, H', I2.turned (t' := s2.toks) (fun b o hb e => (sb3.2 b hb).trans e) f0 f1 f3 f4 f5, q⟩⟩
end
end Cs
set_option maxHeartbeats 4000000
namespace Cs
open PySem PySem.Spec PyProof.Rows L2
section
variable {α β γ δ : Type} {W : Wd} {K : PySem.W.Frag} {ta tb tc : TE} {t : Ty α} {u : Ty β} {x x' : α} {y : β} {tt uu : TT} {ar ak : TA} {fs : List SF} {i : Nat} {E : XK} {ts us vs : TS} {D : Ends} {g : TG} {as : α → List (Nat × SF)} {wi : TI}
theorem Ev.xe (h : Ev W ta t x) : Evx W ta t fun y => y = x := h.x rfl
theorem evx_to {P : α → Prop} {P' : β → Prop} (h : Evx W ta t P) (e : ∀ x, P x → ∃ y, P' y ∧ ∀ H v, t.r H v x → u.r H v y) : Evx W ta u P' := fun σ H o Q q => h σ H o Q fun v x H' p g r => by
  obtain ⟨y, py, c⟩ := e x p
  exact q v y H' py g (c _ _ r)
theorem go_setx {P : α → Prop} (h : Evx W ta t P) (k : ∀ x, P x → Go (W.at i (t.is x)) us D) : Go W (tSeq (tAsg ta (gName i)) us) D := fun σ H o => h σ H o _ fun v x H1 p g r => k x p _ _ (g.ok.put r)
theorem go_set1x {P : α → Prop} (h : Evx W ta t P) (k : ∀ x, P x → ∀ σ H, Ok (W.at i (t.is x)) σ H → D.nx σ H) : Go W (tAsg ta (gName i)) D := fun σ H o => h σ H o _ fun v x H1 p g r => k x p _ _ (g.ok.put r)
theorem go_ifx {P : Bool → Prop} (h : Etx W tt P) (h1 : P true → Go W ts D) (h2 : P false → Go W us D) : Go W (tIfS tt ts us) D := fun σ H o => h σ H o _ fun b H1 p g => by
  cases b with
  | true => exact h1 p σ H1 g.ok
  | false => exact h2 p σ H1 g.ok
theorem go_ifrx {P : Bool → Prop} (h : Etx W tt P) (h1 : P true → Go W ts { D with nx := vs D }) (h2 : P false → Go W vs D) : Go W (tSeq (tIfS tt ts tNext) vs) D := go_ifx h h1 h2
/-- an if whose ends meet -/
theorem go_ifj {ι : Type} {P : Bool → Prop} (Wj : ι → Wd) (Pj : ι → Prop) (h : Etx W tt P) (h1 : P true → ∀ nx : L2.St → Hp → Prop, (∀ c, Pj c → ∀ σ H, Ok (Wj c) σ H → nx σ H) → Go W ts { D with nx := nx }) (h2 : P false → ∃ c, Pj c ∧ Wk W (Wj c)) (hk : ∀ c, Pj c → Go (Wj c) vs D) : Go W (tSeq (tIfS tt ts tNext) vs) D :=
  go_ifrx h (fun p => h1 p (vs D) fun c pc σ H o => hk c pc σ H o) fun p => by
    obtain ⟨c, pc, w⟩ := h2 p
    exact go_wk w (hk c pc)
theorem evx_ixL {xs : List α} {P : Int → Prop} {R : α → Prop} {t : Ty α} (h : Ev W ta (tLs K t) xs) (hb : Evx W tb tInt P) (e : ∀ n, P n → ∃ x, R x ∧ atI xs n = some x) : Evx W (tOp (rIxL K) ta tb) t R := fun σ H o Q q =>
  h σ H o _ fun v H1 g1 r1 => hb σ H1 g1.ok _ fun v2 n H2 p2 g2 r2 => by
    obtain ⟨p, vs, ev, s, al⟩ := (tLs K t).mono g2.up r1
    obtain ⟨x, rx, e⟩ := e n p2
    have : ∃ z, atI vs n = some z ∧ t.r (hid W.S H2) z x := by
      unfold atI at e ⊢
      rw [al.length]
      cases c : ixN xs.length n with
      | none => rw [c] at e; cases e
      | some k =>
        rw [c] at e
        exact al.get e
    obtain ⟨z, hz, rz⟩ := this
    exact ⟨p, vs, n, z, ev, r2, (SqL.of (hid_sub _ _ s)), hz, q z x H2 rx (g1.trans g2) rz⟩
/-! ### arguments of several answers -/
def Eax (W : Wd) (ta : TA) {α : Type} (F : α → List SF) (P : α → Prop) : Prop := ∀ σ H, Ok W σ H → ∀ Q : List V → Hp → Prop, (∀ vs c H', P c → Go1 W σ H H' → Fits (hid W.S H') (F c) vs → Q vs H') → ta σ H Q
theorem Ea.xe (h : Ea W ar fs) : Eax W ar (fun _ : Unit => fs) (fun _ => True) := fun σ H o Q q => h σ H o Q fun vs H' g f => q vs () H' trivial g f
theorem eax_consx {P : α → Prop} {F : β → List SF} {R : β → Prop} (ha : Evx W ta t P) (hr : Eax W ar F R) : Eax W (tCons ta ar) (fun c : α × β => t.is c.1 :: F c.2) (fun c => P c.1 ∧ R c.2) := fun σ H o Q q =>
  ha σ H o _ fun v x H1 p g1 r1 => hr σ H1 g1.ok _ fun vs c H2 pc g2 r2 => q (v :: vs) (x, c) H2 ⟨p, pc⟩ (g1.trans g2) ⟨t.mono g2.up r1, r2⟩
theorem eax_cons {F : β → List SF} {R : β → Prop} (ha : Ev W ta t x) (hr : Eax W ar F R) : Eax W (tCons ta ar) (fun c : β => t.is x :: F c) R := fun σ H o Q q =>
  ha σ H o _ fun v H1 g1 r1 => hr σ H1 g1.ok _ fun vs c H2 pc g2 r2 => q (v :: vs) c H2 pc (g1.trans g2) ⟨t.mono g2.up r1, r2⟩
/-- as ok_N, a def with defaults -/
theorem ok_ND {P : Program} {w : World} {mg : Str → Option Value} {base : Heap} {nm qual : Str} {st : Stmt} {f : Addr} {fd : FuncData} {N ps : List Str} {k : Nat} {C : α → List RS} {A : α → List SF} {wt : Ty β} {pre : α → Prop} {post : α → β → Prop} {dvs : List V} {kws : List (Str × V)}
    (F : FunD K nm qual (defArgs st) (defBody st) (defScope st) dvs kws f fd) (S : FnScope N ps (defScope st)) (hl : ∀ x, (A x).length = ps.length)
    (body : ∀ (cdv : Value) (A' : Around) (outer : List Env) (s : Shared) (H0 : Hp) (S : List Addr) (x : α) (Q : VK) (E : XK), Room k (A'.deeper (envOfC qual (defScope st) s.heap.objs.size f cdv)) → pre x → Rt (C x) S H0 wt (post x) Q →
      ∃ t, PSs (cxOf CX0 P w K mg base N qual (defScope st) f cdv A' outer s H0 E).nox (defBody st) t ∧ Go ⟨H0, fps (C x), S, C x, [], (A x).map some ++ List.replicate (N.length - ps.length) none⟩ t { nx := fun _ H' => Q .non H', rt := Q }) :
    FnOk P w K mg base CX0 (k + 1) f fd ps (spN C A wt pre post) := by
  refine F.ok S (fun vs H Q E h => ?_) (fun cdv A' outer s H vs Q E hr h => ?_)
  · obtain ⟨S', x, _, _, _, _, ft, _⟩ := h
    rw [ft.length, hl]
  · obtain ⟨S', x, al, nd, sub, cc, ft, hp, out⟩ := h
    obtain ⟨t, h1, h2⟩ := body cdv A' outer s H S' x Q E hr hp (fun v y H' => out v y H')
    refine ⟨t, h1.nox, h2 _ _ ⟨nd, fun a m => ⟨sub a m, .inl m⟩, cc, sub, al, Bt.refl, ?_, (fun f m => nomatch m), fun i f' q => ?_⟩⟩
    · show (L2.start N vs).length = ((A x).map some ++ List.replicate (N.length - ps.length) none).length
      unfold L2.start
      have e1 := ft.length
      have e2 := hl x
      simp only [List.length_append, List.length_map, List.length_replicate]
      omega
    · have q : ((A x).map some ++ List.replicate (N.length - ps.length) none)[i]? = some (some f') := q
      unfold L2.start
      by_cases l : i < (A x).length
      · rw [List.getElem?_append_left (by simpa using l), List.getElem?_map] at q
        cases c : (A x)[i]? with
        | none => rw [c] at q; cases q
        | some z =>
          rw [c] at q
          obtain rfl : z = f' := Option.some.inj (Option.some.inj q)
          obtain ⟨v, hv, hz⟩ := ft.get c
          exact ⟨v, by rw [List.getElem?_append_left (by simpa [ft.length] using l), List.getElem?_map, hv]; rfl, hz⟩
      · rw [List.getElem?_append_right (by simpa using l)] at q
        have := List.mem_of_getElem? q
        rw [List.mem_replicate] at this
        exact absurd this.2 (by simp)
/-- what the written part has of a def with defaults: it may be called with all or without them -/
def FunDG (K : PySem.W.Frag) (mg : Str → Option Value) (x : Str) (st : Stmt) (ps : List Str) (dvs : List V) : Prop :=
  ∃ (f : Addr) (fd : FuncData) (ds : List Value), FunD K x x (defArgs st) (defBody st) (defScope st) dvs [] f fd ∧ mg x = some (.ref f) ∧ PySem.W.keepIn K (.ref f) = true ∧ Binds K fd ps [] ∧ Binds K fd ps ds ∧ Vals dvs ds
theorem Cal.ofD {P : Program} {w : World} {mg : Str → Option Value} {base : Heap} {x : Str} {st : Stmt} {ps : List Str} {k : Nat} {sp : Sp} {dvs : List V} (F : FunDG K mg x st ps dvs) (h : ∀ {f : Addr} {fd : FuncData}, FunD K x x (defArgs st) (defBody st) (defScope st) dvs [] f fd → FnOk P w K mg base CX0 k f fd ps sp) : Cal P w K mg base k x ps sp ∧ CalD P w K mg base k x ps dvs sp := by
  obtain ⟨f, fd, ds, F, g, kp, b, bd, vd⟩ := F
  exact ⟨⟨f, fd, h F, g, kp, b⟩, ⟨f, fd, ds, h F, g, kp, bd, vd⟩⟩
theorem FunDG.mk {mg : Str → Option Value} {h : Heap} {x : Str} {st : Stmt} {ps : List Str} {dvs : List V} {f T : Addr} {od an dT : Option Addr} {sl slT : Array (Option Value)} {its : Array Value} {oc kV dc pm cd ct cT : Value} {nT : Nat} (n : Nat)
    (hb0 : ∀ (T : Addr) (kV doc pm : Value) (an : Option Addr) (cdv ct : Value) (us its : List Value), us.length = ps.length → its.length = dvs.length →
      ∃ k, bindArgs (PySem.W.fnOf x x (defArgs st) (defBody st) (defScope st) (.ref T) kV doc pm an cdv ct) ⟨us, []⟩ = seqItems? (.ref T) >>= k ∧ k (some its.toArray) = pure (ps.zip (us ++ its.drop dvs.length)))
    (hb1 : ∀ (T : Addr) (kV doc pm : Value) (an : Option Addr) (cdv ct : Value) (us its : List Value), us.length = n → its.length = dvs.length →
      ∃ k, bindArgs (PySem.W.fnOf x x (defArgs st) (defBody st) (defScope st) (.ref T) kV doc pm an cdv ct) ⟨us, []⟩ = seqItems? (.ref T) >>= k ∧ k (some its.toArray) = pure (ps.zip (us ++ its.drop 0)))
    (X : K.In h) (G : h.Ns mainGlobals mg)
    (a : PySem.W.nsIn K mainGlobals x = some (some (.ref f))) (l : K.lookup f = some ⟨oc, od, .func (PySem.W.fnOf x x (defArgs st) (defBody st) (defScope st) (.ref T) kV dc pm an cd ct), sl⟩) (c : PySem.W.codeIn K cd x = true) (k : PySem.W.keepIn K (.ref f) = true)
    (lT : K.lookup T = some ⟨cT, dT, .seq its nT, slT⟩) (hd : dvs ≠ []) (hv : Vals dvs its.toList) (hn : n + dvs.length = ps.length) : FunDG K mg x st ps dvs := by
  have F : FunD K x x (defArgs st) (defBody st) (defScope st) dvs [] f _ := ⟨⟨oc, od, .ref T, kV, dc, pm, an, cd, ct, sl, rfl, l, c, .inr ⟨hd, T, _, its.toList, nT, rfl, lT, rfl, hv⟩, .inl rfl⟩, k⟩
  obtain ⟨d0, v0, B0⟩ := F.binds1 (ps := ps) ps.length dvs.length hd (by omega) hb0
  obtain ⟨d1, v1, B1⟩ := F.binds1 (ps := ps) n 0 hd (by omega) hb1
  rw [List.drop_length] at v0
  cases v0
  exact ⟨f, _, d1, F, PySem.W.mg_of X G a, k, B0, B1, v1⟩
/-! ### new instances -/
def cIns (C dx : Addr) (known : List (Str × SF)) : CF := ⟨fun F o => ∃ fs, o = .ins C dx fs ∧ fs.length ≤ known.length ∧ FldAt F fs known, fun e ⟨fs, h, l, k⟩ => ⟨fs, h, l, fun n f m => by
  obtain ⟨v, h1, h2⟩ := k n f m
  exact ⟨v, h1, f.mono e h2⟩⟩⟩
/-- what `__init__` promises: the new instance has these attributes -/
def spI (C : Addr) (A : α → List SF) (pre : α → Prop) (flds : α → List (Str × SF)) : Sp := fun vs H Q _ => ∃ (S : List Addr) (x : α) (a dx : Addr) (ws : List V), vs = .ref a :: ws ∧ a ∈ S ∧ (∀ b ∈ S, H b ≠ none) ∧ H a = some (.ins C dx []) ∧ Fits (hid S H) (A x) ws ∧ pre x ∧
  ∀ H' fs, Bt [a] H H' → H' a = some (.ins C dx fs) → FldAt (hid S H') fs (flds x) → Q .non H'
theorem ok_I {P : Program} {w : World} {mg : Str → Option Value} {base : Heap} {nm qual : Str} {st : Stmt} {f : Addr} {fd : FuncData} {N ps : List Str} {k : Nat} {C : Addr} {A : α → List SF} {pre : α → Prop} {flds : α → List (Str × SF)} {p0 : Str}
    (F : Fun K nm qual st f fd) (S : FnScope N (p0 :: ps) (defScope st)) (hl : ∀ x, (A x).length = ps.length)
    (body : ∀ (cdv : Value) (A' : Around) (outer : List Env) (s : Shared) (H0 : Hp) (S : List Addr) (x : α) (a dx : Addr) (Q : VK) (E : XK), Room k (A'.deeper (envOfC qual (defScope st) s.heap.objs.size f cdv)) → pre x → a ∈ S →
      ∃ t, PSs (cxOf CX0 P w K mg base N qual (defScope st) f cdv A' outer s H0 E).nox (defBody st) t ∧ ∀ nx : L2.St → Hp → Prop, (∀ known F G σ H, Ok ⟨H0, [a], S, [cell a (cIns C dx known)], F, G⟩ σ H → (∀ p, p ∈ flds x → p ∈ known) → nx σ H) → Go ⟨H0, [a], S, [cell a (cIns C dx [])], [], some (tRf.is a) :: ((A x).map some ++ List.replicate (N.length - (ps.length + 1)) none)⟩ t { nx := nx, rt := Q }) :
    FnOk P w K mg base CX0 (k + 1) f fd (p0 :: ps) (spI C A pre flds) := by
  refine F.ok S (fun vs H Q E h => ?_) (fun cdv A' outer s H vs Q E hr h => ?_)
  · obtain ⟨S', x, a, dx, ws, rfl, _, _, _, ft, _⟩ := h
    show ws.length + 1 = ps.length + 1
    rw [ft.length, hl]
  · obtain ⟨S', x, a, dx, ws, rfl, am, al, ha, ft, hp, out⟩ := h
    obtain ⟨t, h1, h2⟩ := body cdv A' outer s H S' x a dx Q E hr hp am
    have fa : fps [cell a (cIns C dx ([] : List (Str × SF)))] = [a] := rfl
    refine ⟨t, h1, h2 _ (fun known F' G' σ H' o sub => ?_) _ _ ⟨by rw [fa]; simp, fun b m => ?_, fun r m => ?_, fun b m => ?_, al, Bt.refl, ?_, (fun f m => nomatch m), fun i f' q => ?_⟩⟩
    · obtain ⟨ob, hob, fs, rfl, _, hf⟩ := o.at_ (cell a (cIns C dx known)) (List.mem_cons_self ..)
      exact out H' fs o.bt hob fun n f m => hf n f (sub _ m)
    · rw [fa] at m
      rw [List.mem_singleton.mp m]
      exact ⟨am, .inl (List.mem_cons_self ..)⟩
    · rw [List.mem_singleton.mp m]
      exact ⟨_, ha, [], rfl, Nat.le_refl _, fun n f z => nomatch z⟩
    · rw [List.mem_singleton.mp m]
      exact am
    · show (L2.start N (.ref a :: ws)).length = (some (tRf.is a) :: ((A x).map some ++ List.replicate (N.length - (ps.length + 1)) none)).length
      unfold L2.start
      have e1 := ft.length
      have e2 := hl x
      simp only [List.length_append, List.length_map, List.length_replicate, List.length_cons]
      omega
    · have q : (some (tRf.is a) :: ((A x).map some ++ List.replicate (N.length - (ps.length + 1)) none))[i]? = some (some f') := q
      unfold L2.start
      cases i with
      | zero =>
        obtain rfl : tRf.is a = f' := by simpa using q
        exact ⟨.ref a, rfl, rfl⟩
      | succ i =>
        have q : ((A x).map some ++ List.replicate (N.length - (ps.length + 1)) none)[i]? = some (some f') := by simpa using q
        rw [List.map_cons, List.cons_append, List.getElem?_cons_succ]
        by_cases l : i < (A x).length
        · rw [List.getElem?_append_left (by simpa using l), List.getElem?_map] at q
          cases c : (A x)[i]? with
          | none => rw [c] at q; cases q
          | some z =>
            rw [c] at q
            obtain rfl : z = f' := Option.some.inj (Option.some.inj q)
            obtain ⟨v, hv, hz⟩ := ft.get c
            exact ⟨v, by rw [List.getElem?_append_left (by simpa [ft.length] using l), List.getElem?_map, hv]; rfl, hz⟩
        · rw [List.getElem?_append_right (by simpa using l)] at q
          have := List.mem_of_getElem? q
          rw [List.mem_replicate] at this
          exact absurd this.2 (by simp)
/-- self.n = e -/
theorem fld_write {C dx a : Addr} {n : Str} {known : List (Str × SF)} {R : List RS} {s : Nat} {nx : L2.St → Hp → Prop} (hs : W.G[s]? = some (some (tRf.is a))) (hL : W.L = cell a (cIns C dx known) :: R) (h : Ev W ta t x) (cl : Cls K C) (na : NoAttr K C n) (hn : (known.map (·.1)).contains n = false) (hl : known.length < 900)
    (k : ∀ σ H, Ok { W with L := cell a (cIns C dx ((n, t.is x) :: known)) :: R } σ H → nx σ H) (hD : D.nx = nx) : Go W (sFld K (tVar s) ta n) D := fun σ H o => h σ H o _ fun v H1 g r => by
  obtain ⟨w, h1, rfl⟩ := g.ok.slots s _ hs
  obtain ⟨ob, hob, fs, rfl, hlen, hf⟩ := g.ok.at_ (cell a (cIns C dx known)) (by rw [hL]; exact List.mem_cons_self ..)
  refine ⟨.ref a, h1, a, C, dx, fs, rfl, hob, cl, na, by omega, ?_⟩
  rw [hD]
  refine k _ _ (g.ok.write (ψ := cIns C dx ((n, t.is x) :: known)) hL ⟨_, rfl, Nat.le_trans (length_putF n v fs) (by rw [List.length_cons]; omega), fun m f z => ?_⟩).ok
  rw [lookup_putF]
  rcases List.mem_cons.mp z with z | z
  · obtain ⟨rfl, rfl⟩ := Prod.mk.inj z
    exact ⟨v, if_pos rfl, r⟩
  · have ne : m ≠ n := fun e => by
      have : (known.map (·.1)).contains n = true := by
        rw [List.contains_eq_mem, decide_eq_true_eq]
        exact List.mem_map.mpr ⟨(m, f), z, e⟩
      rw [hn] at this; cases this
    obtain ⟨w, q1, q2⟩ := hf m f z
    exact ⟨w, by rw [if_neg ne]; exact q1, q2⟩
theorem go_fldS {C dx a : Addr} {n : Str} {known : List (Str × SF)} {R : List RS} {s : Nat} (hs : W.G[s]? = some (some (tRf.is a))) (hL : W.L = cell a (cIns C dx known) :: R) (h : Ev W ta t x) (cl : Cls K C) (na : NoAttr K C n) (k : Go { W with L := cell a (cIns C dx ((n, t.is x) :: known)) :: R } us D) (hn : (known.map (·.1)).contains n = false := by rfl) (hl : known.length < 900 := by simp)
    : Go W (tSeq (sFld K (tVar s) ta n) us) D := fun σ H o => fld_write hs hL h cl na hn hl (fun σ' H' o' => k σ' H' o') rfl σ H o
theorem go_fldS1 {C dx a : Addr} {n : Str} {known : List (Str × SF)} {R : List RS} {s : Nat} (hs : W.G[s]? = some (some (tRf.is a))) (hL : W.L = cell a (cIns C dx known) :: R) (h : Ev W ta t x) (cl : Cls K C) (na : NoAttr K C n) (k : ∀ σ H, Ok { W with L := cell a (cIns C dx ((n, t.is x) :: known)) :: R } σ H → D.nx σ H) (hn : (known.map (·.1)).contains n = false := by rfl) (hl : known.length < 900 := by simp)
    : Go W (sFld K (tVar s) ta n) D := fld_write hs hL h cl na hn hl k rfl
/-- C(e, .., k = v, ..) -/
theorem evx_makeK {n m : Nat} {C : Addr} {A : γ → List SF} {pre : γ → Prop} {flds : γ → List (Str × SF)} {gV : List V → List V → List V} {F1 : α → List SF} {F2 : β → List SF} {P1 : α → Prop} {P2 : β → Prop} (z : α → β → γ)
    (ha : Eax W ar F1 P1) (hk : Eax W ak F2 P2) (hn : ∀ c, (F1 c).length = n) (hm : ∀ c, (F2 c).length = m) (hg : ∀ H v c d us ws, Fits H (F1 c) us → Fits H (F2 d) ws → ∃ os, gV (v :: us) ws = v :: os ∧ Fits H (A (z c d)) os) (hp : ∀ c d, P1 c → P2 d → pre (z c d)) :
    Evx W (tMakeK C n m (spI C A pre flds) gV E ar ak) (tOb C flds) (fun y => ∃ c d, P1 c ∧ P2 d ∧ y = z c d) := fun σ H o Q q =>
  ha σ H o _ fun us c H1 pc g1 f1 => hk σ H1 g1.ok _ fun ws d H2 pd g2 f2 => by
    refine ⟨by rw [f1.length, hn], by rw [f2.length, hm], fun a dx na nd ne => ?_⟩
    obtain ⟨os, e, ft⟩ := hg _ (.ref a) c d us ws (f1.mono g2.up) f2
    rw [e]
    have nd' : (upd H2 dx (.own a)) a = none := by rw [upd_ne (Ne.symm ne)]; exact na
    have s1 : Same H2 (upd H2 dx (.own a)) := Same.new nd
    have s2 : Same H2 (upd (upd H2 dx (.own a)) a (.ins C dx [])) := s1.trans (Same.new nd')
    have off : a ∉ W.S := g2.ok.off na
    have h3 : hid (a :: W.S) (upd (upd H2 dx (.own a)) a (.ins C dx [])) = hid (a :: W.S) (upd H2 dx (.own a)) := hid_upd (List.mem_cons_self ..)
    have up1 : Same (hid W.S H2) (hid (a :: W.S) (upd (upd H2 dx (.own a)) a (.ins C dx []))) := by
      rw [h3]
      exact Bt.hid (M := []) (N := [a]) (Bt.of s1) (fun b m => nomatch m) (fun b m => .inr (by rw [List.mem_singleton.mp m]; exact na))
    refine ⟨a :: W.S, z c d, a, dx, os, rfl, List.mem_cons_self .., fun b m => ?_, upd_same, ft.mono up1, hp c d pc pd, fun H' fs bt hf fl => ?_⟩
    · rcases List.mem_cons.mp m with m | m
      · rw [m, upd_same]; simp
      · intro z
        have := g2.ok.al b m
        cases q : H2 b with
        | none => exact this q
        | some ob => rw [s2 b ob q] at z; cases z
    · refine ⟨rfl, ?_⟩
      have e2 : Same H2 H' := fun b ob q => bt b ob (fun z => by rw [List.mem_singleton.mp z, na] at q; cases q) (s2 b ob q)
      refine q _ _ H' ⟨c, d, pc, pd, rfl⟩ ((g1.trans g2).trans (g2.ok.go e2)) ⟨a, dx, fs, rfl, by rw [hid_of off]; exact hf, fun nm f mm => ?_⟩
      obtain ⟨v, q1, q2⟩ := fl nm f mm
      exact ⟨v, q1, f.mono (hid_less fun b z => List.mem_cons_of_mem _ z) q2⟩
/-! ### lists that grow, of several answers -/
theorem go_ms (k : (∀ a, a ∈ W.M → a ∈ W.S) → Go W ts D) : Go W ts D := fun σ H o => k o.ms σ H o
theorem go_newN {xs : List α} (h : El W ar t xs) (hl : xs.length ≤ sizeLine := by decide) (k : ∀ p, p ∉ W.S → Go ⟨W.H0, W.M, p :: W.S, cell p (cLs t xs) :: W.L, W.F, W.G.set i (some (tRf.is p))⟩ us D) : Go W (tSeq (tAsg (tLst ar) (gName i)) us) D := fun σ H o =>
  h σ H o _ fun vs H1 g1 r1 => ⟨by rw [r1.length]; exact hl, fun p np => k p (g1.ok.off np) _ _ (Ok.put (i := i) (f := tRf.is p) (g1.ok.cell (ψ := cLs t xs) np ⟨vs, rfl, r1⟩).1 rfl)⟩
theorem go_appx {p : Addr} {xs : List α} {R : List RS} {P : α → Prop} (hp : W.G[i]? = some (some (tRf.is p))) (hL : W.L.Perm (cell p (cLs t xs) :: R)) (ha : Evx W ta t P) (hl : xs.length < sizeLine) (k : ∀ x, P x → Go { W with L := cell p (cLs t (xs ++ [x])) :: R } us D) :
    Go W (tSeq (tDrop (tBM K "list" rAppend (tVar i) (tCons ta tNil))) us) D := fun σ H o => by
  obtain ⟨v, h1, h2⟩ := o.slots i _ hp
  obtain rfl : v = .ref p := h2
  have mem : cell p (cLs t xs) ∈ W.L := hL.mem_iff.mpr (List.mem_cons_self ..)
  obtain ⟨ob, hob, vs, rfl, _⟩ := o.at_ _ mem
  refine ⟨.ref p, h1, .inl ⟨rfl, vs, SqL.of hob⟩, ?_⟩
  refine ha σ H o _ fun y x H1 px g1 ry => ?_
  obtain ⟨ob, hob, ws, rfl, al⟩ := g1.ok.at_ _ mem
  exact ⟨p, ws, y, rfl, rfl, hob, by rw [al.length]; exact hl, k x px _ _ ((g1.ok.perm hL).write (ψ := cLs t (xs ++ [x])) rfl ⟨_, rfl, al.app (ws := [y]) (ys := [x]) ⟨ry, trivial⟩⟩).ok⟩
theorem go_app1x {p : Addr} {xs : List α} {R : List RS} {P : α → Prop} (hp : W.G[i]? = some (some (tRf.is p))) (hL : W.L.Perm (cell p (cLs t xs) :: R)) (ha : Evx W ta t P) (hl : xs.length < sizeLine) (k : ∀ x, P x → ∀ σ H, Ok { W with L := cell p (cLs t (xs ++ [x])) :: R } σ H → D.nx σ H) :
    Go W (tDrop (tBM K "list" rAppend (tVar i) (tCons ta tNil))) D := go_appx (us := fun D σ H => D.nx σ H) hp hL ha hl k
/-! ### walks of several answers -/
def Ivx {α : Type} (W : Wd) (wi : TI) (t : Ty α) (X : List α → Prop) : Prop := ∀ σ H, Ok W σ H → ∀ R : It → Hp → Prop, (∀ xs J H1 f, X xs → Go1 W σ H H1 → f.p (hid W.S H1) → Wks J f t xs → R J H1) → wi σ H R
theorem ivx_range1 {P : Int → Prop} (h : Evx W ta tInt P) (h1 : ∀ n, P n → -(2 ^ 62) ≤ n ∧ n < 2 ^ 62) : Ivx W (iRng1 (tCons ta tNil)) tInt (fun xs => ∃ n : Int, P n ∧ xs = (List.range n.toNat).map fun (i : Nat) => (i : Int)) := fun σ H o R q =>
  evx_range1 (R' := fun _ => True) o h h1 fun n J H1 f p g z wk => q _ J H1 f ⟨n, p, rfl⟩ g z wk
theorem go_forx {ι : Type} {X : List α → Prop} (h : Ivx W wi t X) (tg : Tgt g t as) (J : Nat → ι → List RS × List (Option SF)) (Pv : Nat → ι → Prop) (c0 : ι) (p0 : Pv 0 c0) (w0 : Wk W { W with L := (J 0 c0).1, G := (J 0 c0).2 })
    (hs : ∀ xs k c x (f : FF), X xs → xs[k]? = some x → Pv k c → Go (Wd.puts ⟨W.H0, W.M, W.S, (J k c).1, f :: W.F, (J k c).2⟩ (as x)) ts
      { D with nx := fun σ H => ∃ c', Pv (k + 1) c' ∧ Ok ⟨W.H0, W.M, W.S, (J (k + 1) c').1, f :: W.F, (J (k + 1) c').2⟩ σ H, ct := fun σ H => ∃ c', Pv (k + 1) c' ∧ Ok ⟨W.H0, W.M, W.S, (J (k + 1) c').1, f :: W.F, (J (k + 1) c').2⟩ σ H, bk := D.nx })
    (hd : ∀ xs c, X xs → Pv xs.length c → ∀ σ H, Ok { W with L := (J xs.length c).1, G := (J xs.length c).2 } σ H → D.nx σ H) :
    Go W (tFor wi g ts) D := fun σ H o => h σ H o _ fun xs Ji H1 f px g1 fp wk =>
  for_core wk tg (fun k c => ⟨W.H0, W.M, W.S, (J k c).1, f :: W.F, (J k c).2⟩) Pv (fun _ _ => rfl) ⟨c0, p0, Ok.know (w0 _ _ g1.ok) fp⟩ (fun k c x hx pc => hs xs k c x f px hx pc) fun c pc σ' H' o' => hd xs c px pc σ' H'
    ⟨o'.nod, o'.own, o'.at_, o'.ms, o'.al, o'.bt, o'.len, fun q m => o'.facts q (List.mem_cons_of_mem _ m), o'.slots⟩
/-! ### lists or tuples -/
def tLT (K : PySem.W.Frag) {α : Type} (t : Ty α) : Ty (List α) := ⟨fun H v xs => ∃ p vs, v = .ref p ∧ (SqL K H p vs ∨ SqT K H p vs) ∧ All2 (t.r H) vs xs, fun e ⟨p, vs, h, g, h1⟩ => ⟨p, vs, h, g.imp (fun z => e.seq z) (fun z => sqT_mono e z), All2.mono (fun _ _ => t.mono e) h1⟩⟩
theorem ev_LT {xs : List α} (h : Ev W ta (tLs K t) xs) : Ev W ta (tLT K t) xs := ev_to h fun _ _ ⟨p, vs, e, s, al⟩ => ⟨p, vs, e, .inl (SqL.of s), al⟩
theorem lt_hid {H : Hp} {S : List Addr} {p : Addr} {vs : List V} (h : SqL K (hid S H) p vs ∨ SqT K (hid S H) p vs) : SqL K H p vs ∨ SqT K H p vs := h.imp (fun z => hid_sub.seq z) (fun z => sqT_mono hid_sub z)
theorem ev_inT {z : Str} {xs : List Str} (ha : Ev W ta tSt z) (hb : Ev W tb (tLT K tSt) xs) : Ev W (tOp (rIn K false) ta tb) tBl (decide (z ∈ xs)) := fun σ H o Q q =>
  ha σ H o _ fun v H1 g1 r1 => hb σ H1 g1.ok _ fun v2 H2 g2 ⟨p, vs, e, s, al⟩ => ⟨p, vs, e, lt_hid s, by rw [show v = .str z from r1]; rfl, flat_str al, q _ H2 (g1.trans g2) (by rw [show v = .str z from r1]; show V.bl (inV (.str z) vs) = _; rw [inV_str al])⟩
theorem ev_niT {z : Str} {xs : List Str} (ha : Ev W ta tSt z) (hb : Ev W tb (tLT K tSt) xs) : Ev W (tOp (rIn K true) ta tb) tBl (!decide (z ∈ xs)) := fun σ H o Q q =>
  ha σ H o _ fun v H1 g1 r1 => hb σ H1 g1.ok _ fun v2 H2 g2 ⟨p, vs, e, s, al⟩ => ⟨p, vs, e, lt_hid s, by rw [show v = .str z from r1]; rfl, flat_str al, q _ H2 (g1.trans g2) (by rw [show v = .str z from r1]; show V.bl (!inV (.str z) vs) = _; rw [inV_str al])⟩
theorem el_starT {xs ys : List α} (ha : Ev W ta (tLT K t) xs) (hr : El W ar t ys) : El W (StX.tStar K ta ar) t (xs ++ ys) := fun σ H o Q q =>
  ha σ H o _ fun v H1 g1 ⟨p, vs, e, s, al⟩ => ⟨p, vs, e, (lt_hid s).symm, hr σ H1 g1.ok _ fun ws H2 g2 r2 => q _ _ (g1.trans g2) ((All2.mono (fun _ _ => t.mono g2.up) al).app r2)⟩
/-! ### calls that leave arguments out; comparisons of several answers -/
theorem Fits.append {H : Hp} : ∀ {fs gs : List SF} {us ws : List V}, Fits H fs us → Fits H gs ws → Fits H (fs ++ gs) (us ++ ws)
  | [], _, [], _, _, h => h
  | _ :: _, _, _ :: _, _, ⟨a, b⟩, h => ⟨a, Fits.append b h⟩
  | [], _, _ :: _, _, h, _ => h.elim
  | _ :: _, _, [], _, h, _ => h.elim
theorem evx_callD {C : γ → List RS} {A : γ → List SF} {w : Ty β} {pre : γ → Prop} {post : γ → β → Prop} {z : γ} {ds : List SF} {dvs : List V} (h : Ea W ar fs) (hd : ∀ H, Fits H ds dvs) (e : A z = fs ++ ds) (hp : pre z) (hC : (C z).Sublist W.L := by first | exact List.nil_sublist _ | exact List.Sublist.refl _ | exact List.singleton_sublist.mpr (by simp) | simp) :
    Evx W (tCall (spN C A w pre post) dvs E ar) w (post z) := fun σ H o Q q => h σ H o _ fun vs H1 g1 r1 => by
  have sub : ∀ a, a ∈ fps (C z) → a ∈ W.S := fun a m => by
    obtain ⟨r, m1, m2⟩ := of_fps m
    exact (g1.ok.own a (mem_fps (hC.subset m1) m2)).1
  refine ⟨W.S, z, g1.ok.al, ?_, sub, fun r m => g1.ok.at_ r (hC.subset m), by rw [e]; exact Fits.append r1 (hd _), hp, fun v y H2 py b al c r => ?_⟩
  · exact (fps_sub hC).nodup g1.ok.nod
  · exact q v y H2 py (g1.trans (g1.ok.after (fun r m => hC.subset m) b al c)) r
theorem evx_cat {xs : List α} {P : List α → Prop} (ha : Ev W ta (tLs K t) xs) (hb : Evx W tb (tLs K t) P) (hl : ∀ ys, P ys → xs.length + ys.length ≤ sizeLine) : Evx W (tOp rCat ta tb) (tLs K t) (fun z => ∃ ys, P ys ∧ z = xs ++ ys) := fun σ H o Q q =>
  ha σ H o _ fun v H1 g1 r1 => hb σ H1 g1.ok _ fun v2 ys H2 py g2 ⟨p2, vs2, e2, s2, al2⟩ => by
    obtain ⟨p1, vs1, e1, s1, al1⟩ := (tLs K t).mono g2.up r1
    exact ⟨p1, p2, vs1, vs2, e1, e2, hid_sub _ _ s1, hid_sub _ _ s2, by rw [al1.length, al2.length]; exact hl ys py, fun p np => q _ _ _ ⟨ys, py, rfl⟩ ((g1.trans g2).trans (g2.ok.new np))
      ⟨p, vs1 ++ vs2, rfl, (by rw [hid_of (g2.ok.off np)]; exact upd_same), All2.mono (fun _ _ => t.mono (g2.ok.new np).up) (al1.app al2)⟩⟩
theorem etx_of {P : Bool → Prop} (h : Evx W ta tBl P) : Etx W (tTest ta) P := fun σ H o Q q => h σ H o _ fun v b H1 p g1 r1 => ⟨b, r1, q b H1 p g1⟩
theorem evx_neD [DecidableEq α] {P : α → Prop} (e : Eqt K t) (ha : Evx W ta t P) (hb : Ev W tb t x') (l1 : ∀ x, P x → (e.d x).canLay0 = true) (l2 : (e.d x').canLay0 = true) (hn : e.n ≤ 64 := by decide) : Evx W (tOp (rNeD K) ta tb) tBl (fun b => ∃ x, P x ∧ b = !decide (x = x')) := fun σ H o Q q =>
  ha σ H o _ fun v x H1 px g1 r1 => hb σ H1 g1.ok _ fun v2 H2 g2 r2 => ⟨e.d x, e.d x', dp_mono hid_sub (e.dp (t.mono g2.up r1)), dp_mono hid_sub (e.dp r2), e.shape hn (l1 x px), e.shape hn l2, by rw [e.dec]; exact q _ _ H2 ⟨x, px, rfl⟩ (g1.trans g2) rfl⟩
end
end Cs
namespace Cs
open PySem PySem.Spec PyProof.Rows L2
theorem lay_st {K : PySem.W.Frag} {x : Str} (h : PyData.strOk x = true) : ((eqSt (K := K)).d x).canLay0 = true := by
  show (PyData.str x).canLay0 = true
  simp only [PyData.canLay0]
  exact h
/-- what a law is asked, and what it answers -/
abbrev spLawT (K : PySem.W.Frag) : Sp := spP (fun ns : List Int => [(tSc K).is ns]) tBl (fun _ => True) (fun _ => true)
theorem spL_in {K : PySem.W.Frag} {H : Hp} {a : Addr} {ns : List Int} {Q : VK} {E : XK} (hS : SqL K H a (ns.map V.int)) (q : ∀ H', Q (.bl true) H') : spLawT K [.ref a] H Q E :=
  ⟨[], ns, (fun a m => nomatch m), List.nodup_nil, (fun a m => by cases m), (fun r m => by cases m), ⟨⟨a, rfl, (show Same H (hid [] H) from fun b o h => by rw [hid_of List.not_mem_nil]; exact h).seq hS⟩, trivial⟩, trivial, fun v y H' py _ _ _ r => by
    rw [show v = .bl y from r, show y = true from py]
    exact q H'⟩
theorem lt8 {m : Int} (h : m.natAbs < 65536) : m.natAbs < 2 ^ 8000 := Nat.lt_of_lt_of_le h (Nat.pow_le_pow_right (n := 2) (i := 16) (by decide) (by decide))
end Cs
namespace Cs
open PySem PySem.Spec PyProof.Rows L2
/-! ### keywords are bound -/
theorem s_pb {α β : Type} (a : α) (f : α → Sem β) : (pure a >>= f) = f a := rfl
theorem forIn_all {α σ : Type} {body : α → σ → Sem (ForInStep σ)} (st : List α → σ) : ∀ (l pre : List α), (∀ p x q, pre ++ l = p ++ x :: q → body x (st p) = pure (.yield (st (p ++ [x])))) → forIn l (st pre) body = pure (st (pre ++ l))
  | [], pre, _ => by rw [List.append_nil]; rfl
  | x :: l, pre, h => by
    rw [List.forIn_cons, h pre x l rfl, s_pb]
    show forIn l (st (pre ++ [x])) body = _
    rw [forIn_all st l (pre ++ [x]) fun p y q e => h p y q (by rw [← e]; simp)]
    simp
theorem forIn_alls {α σ : Type} {body : α → σ → Sem (ForInStep σ)} (st : List α → σ) (l : List α) {s : σ} (e : st [] = s) (h : ∀ p x q, l = p ++ x :: q → body x (st p) = pure (.yield (st (p ++ [x])))) : forIn l s body = pure (st l) := by
  subst e
  have := forIn_all st l [] (body := body) (by simpa using h)
  simpa using this
theorem filterMap_eq {α β : Type} {f g : α → Option β} : ∀ {l : List α}, (∀ x ∈ l, f x = g x) → l.filterMap f = l.filterMap g
  | [], _ => rfl
  | x :: l, h => by rw [List.filterMap_cons, List.filterMap_cons, h x (List.mem_cons_self ..), filterMap_eq fun y m => h y (List.mem_cons_of_mem _ m)]
theorem forIn_id {α σ : Type} {body : α → σ → Sem (ForInStep σ)} {s : σ} {l : List α} (h : ∀ x ∈ l, body x s = pure (.yield s)) : forIn l s body = pure s := forIn_all (fun _ => s) l [] fun p x q e => h x (by rw [List.nil_append] at e; rw [e]; simp)
theorem zip_lookup : ∀ {ns : List Str} {us : List Value} {n : Str}, ns.length = us.length → n ∈ ns → ((ns.zip us).lookup n).isSome = true
  | [], _, _, _, h => by cases h
  | m :: ns, [], _, e, _ => by cases e
  | m :: ns, u :: us, n, e, h => by
    rw [List.zip_cons_cons, List.lookup_cons]
    by_cases q : n = m
    · subst q; simp
    · have : (n == m) = false := by simpa using q
      rw [this]
      rcases List.mem_cons.mp h with h | h
      · exact absurd h q
      · exact zip_lookup (by simpa using e) h
theorem zip_lookup0 : ∀ {ns : List Str} {us : List Value} {n : Str}, n ∉ ns → (ns.zip us).lookup n = none
  | [], _, _, _ => by simp
  | m :: ns, [], _, _ => by simp
  | m :: ns, u :: us, n, h => by
    rw [List.zip_cons_cons, List.lookup_cons]
    have : (n == m) = false := by simpa using (fun q : n = m => h (q ▸ List.mem_cons_self ..))
    rw [this]
    exact zip_lookup0 fun z => h (List.mem_cons_of_mem _ z)
theorem zip_binds : ∀ {ns : List Str} {us : List Value}, ns.length = us.length → ns.Nodup → (ns.filterMap fun n => ((ns.zip us).lookup n).map fun v => (n, v)) = ns.zip us
  | [], [], _, _ => rfl
  | [], _ :: _, e, _ => by cases e
  | _ :: _, [], e, _ => by cases e
  | m :: ns, u :: us, e, nd => by
    rw [List.nodup_cons] at nd
    rw [List.zip_cons_cons, List.filterMap_cons, List.lookup_cons]
    simp only [beq_self_eq_true]
    show (m, u) :: _ = _
    congr 1
    refine Eq.trans (filterMap_eq fun n hn => ?_) (zip_binds (by simpa using e) nd.2)
    rw [List.lookup_cons]
    have : (n == m) = false := by simpa using (fun q : n = m => nd.1 (q ▸ hn))
    rw [this]
theorem bind_kw {fd : FuncData} {N Kn : List Str} {us ws : List Value} (h0 : fd.params.posonlyargs = []) (h1 : fd.params.args.map (·.arg) = N) (h2 : fd.params.kwonlyargs.map (·.arg) = Kn) (h3 : fd.params.vararg = none) (h4 : fd.params.kwarg = none) (h5 : fd.defaults = .none) (nd : (N ++ Kn).Nodup) (l1 : us.length = N.length) (l2 : ws.length = Kn.length) :
    bindArgs fd ⟨us, Kn.zip ws⟩ = pure ((N ++ Kn).zip (us ++ ws)) := by
  have ez : N.zip us ++ Kn.zip ws = (N ++ Kn).zip (us ++ ws) := (List.zip_append l1.symm).symm
  have lz : (N ++ Kn).length = (us ++ ws).length := by simp [l1, l2]
  have ndd := List.nodup_append.mp nd
  unfold bindArgs
  simp only [h0, h1, h2, h3, h4, h5, List.map_nil, List.nil_append]
  rw [forIn_alls (fun pre => (N.zip us ++ pre, ([] : List (Str × Value)))) (Kn.zip ws) (by simp) ?_]
  · rw [s_pb, show seqItems? Value.none = pure none from rfl, s_pb, if_neg (by simp [l1])]
    simp only [ez]
    rw [if_neg ?_]
    · have ed : (List.drop ((((none : Option (Array Value)).getD #[]).toList).length - N.length) (((none : Option (Array Value)).getD #[]).toList)) = [] := by simp
      rw [ed, List.zip_nil_right]
      rw [show (forIn ([] : List (Str × Value)) ((N ++ Kn).zip (us ++ ws)) fun x s => if (List.lookup x.fst s).isNone = true then (pure (ForInStep.yield (s ++ [(x.fst, x.snd)])) : Sem _) else pure (ForInStep.yield s)) = pure ((N ++ Kn).zip (us ++ ws)) from rfl, s_pb]
      rw [forIn_id (l := Kn) (fun n hn => ?_), s_pb, if_neg (by simp)]
      · show pure _ = _
        congr 1
        exact zip_binds lz nd
      · rw [if_neg (by
          have := zip_lookup lz (List.mem_append_right N hn)
          simp only [Option.isNone_iff_eq_none]
          intro z
          rw [z] at this
          cases this)]
    · have : (List.filter (fun n => (List.lookup n ((N ++ Kn).zip (us ++ ws))).isNone) (List.take (N.length - (List.drop ((((none : Option (Array Value)).getD #[]).toList).length - N.length) (((none : Option (Array Value)).getD #[]).toList)).length) N)) = [] := List.filter_eq_nil_iff.mpr fun n hn => by
        have := zip_lookup lz (List.mem_append_left Kn (List.mem_of_mem_take hn))
        simp only [Option.isNone_iff_eq_none]
        intro z
        rw [z] at this
        cases this
      rw [this]
      simp
  · intro p x q e
    have ek : Kn = p.map (·.1) ++ x.1 :: q.map (·.1) := by
      have := congrArg (List.map (·.1)) e
      rw [List.map_append, List.map_cons] at this
      rw [← this, List.map_fst_zip (by omega)]
    have hx : x.1 ∈ Kn := by rw [ek]; simp
    have h1 : x.1 ∉ N := fun z => ndd.2.2 _ z _ hx rfl
    have h2 : x.1 ∉ p.map (·.1) := fun z => by
      have := ndd.2.1
      rw [ek, List.nodup_append] at this
      exact this.2.2 _ z _ (List.mem_cons_self ..) rfl
    have h3 : List.lookup x.1 (N.zip us ++ p) = none := by
      rw [List.lookup_append, zip_lookup0 h1]
      simp only [Option.none_or]
      rw [List.lookup_eq_none_iff]
      intro y my
      simp only [bne_iff_ne, ne_eq, beq_eq_false_iff_ne]
      exact fun z => h2 (List.mem_map.mpr ⟨y, my, z.symm⟩)
    rw [if_pos (by simp [hx]), if_neg (by simp [h3])]
    simp
end Cs
set_option maxHeartbeats 4000000
namespace Cs
open PySem PySem.Spec PyProof.Rows L2
/-! ### several clauses, with and without names -/
/-- the ends of a named clause's suite: its name goes -/
def goneE (D : Ends) (i : Nat) : Ends := ⟨fun σ H => D.nx (σ.set i none) H, D.rt, fun σ H => D.bk (σ.set i none) H, fun σ H => D.ct (σ.set i none) H⟩
/-- a clause: its class, the slot of its name (if it has one), its suite -/
structure Cla where
  c : Value
  i : Option Nat
  ts : Addr → Value → Option Addr → TS
def Cla.go (q : Cla) (D : Ends) (cls : Value) (d : Option Addr) (a : Addr) (σ : L2.St) (H : Hp) : Prop := match q.i with
  | none => q.ts a cls d D σ H
  | some i => q.ts a cls d (goneE D i) (σ.set i (some (.ref a))) H
/-- what the clauses wish, one behind the other -/
def wCla (K : PySem.W.Frag) (Wout : WX) (D : Ends) : List Cla → WX
  | [] => Wout
  | q :: r => fun cls d σ H => ∃ hit, PySem.W.exmOne K cls q.c = some hit ∧ (hit = true → ∀ a, H a = none → q.go D cls d a σ H) ∧ (hit = false → wCla K Wout D r cls d σ H)
abbrev SuiteOk (X : Cx) (body : List Stmt) (ts : Addr → Value → Option Addr → TS) : Prop :=
  ∀ (a : Addr) (ob : Obj) (cls : Value) (d : Option Addr) (ps : List (Addr × Obj)), Zc cls d ob → (∃ fs, ob.data = .fields fs) → PSs (X.suite a ((a, ob) :: ps)) body (ts a cls d)
inductive ClaOk (X : Cx) : List ExceptHandler → List Cla → Prop
  | nil : ClaOk X [] []
  | plain {x c ts st suite p1 p2 hds l} (nm : Names X x c) (su : SuiteOk X (st :: suite) ts) (r : ClaOk X hds l) : ClaOk X (.ExceptHandler (some (.Name x p1)) none (st :: suite) p2 :: hds) (⟨c, none, ts⟩ :: l)
  | named {x n i c ts st suite p1 p2 hds l} (nm : Names X x c) (hi : X.N[i]? = some n) (hl : X.env.kindOf n = some .local) (su : SuiteOk X (st :: suite) ts) (r : ClaOk X hds l) : ClaOk X (.ExceptHandler (some (.Name x p1)) (some n) (st :: suite) p2 :: hds) (⟨c, some i, ts⟩ :: l)
section
variable {X : Cx} {body : List Stmt} {h0 : ExceptHandler} {hds : List ExceptHandler} {l : List Cla} {pos : Pos} {tb : WX → TS} {Wout : WX}
/-- what stands when an exception has been caught: g is the heap, J the state without it -/
structure Caught (X : Cx) (pins : List (Addr × Obj)) (σ : L2.St) (H : Hp) (sI s1 : Shared) (B : Heap) (a : Addr) (cls : Value) (d : Option Addr) (g : Heap) : Prop where
  J : Inv X pins σ H sI
  nb : ∀ b o, sI.heap.get? b = some o → b ∉ frs X.stack → B.get? b = some o
  up : sI.heap.UpToSlots g
  os : s1.os = sI.os
  ag : AllBare s1.gens
  na : H a = none
  fl : HandSPX.FlyingZ B (X.env :: X.outer) a (Zc cls d) g
theorem Caught.inv {pins : List (Addr × Obj)} {σ : L2.St} {H : Hp} {sI s1 : Shared} {B : Heap} {a : Addr} {cls : Value} {d : Option Addr} {g : Heap} (k : Caught X pins σ H sI s1 B a cls d g) : Inv X pins σ H { s1 with heap := g } :=
  k.J.landed k.nb k.fl.1 k.up k.os k.ag
theorem Caught.off {pins : List (Addr × Obj)} {σ : L2.St} {H : Hp} {sI s1 : Shared} {B : Heap} {a : Addr} {cls : Value} {d : Option Addr} {g : Heap} (k : Caught X pins σ H sI s1 B a cls d g) : a ∉ frs (X.env :: X.outer) := fun hm => by
  obtain ⟨ob, fs, he, _, hd⟩ := k.fl.there
  obtain ⟨_, ob', he', hn⟩ := k.fl.2.2.1.mem hm
  rw [he] at he'
  cases he'
  exact hn _ hd
theorem Caught.in_ {pins : List (Addr × Obj)} {σ : L2.St} {H : Hp} {sI s1 : Shared} {B : Heap} {a : Addr} {cls : Value} {d : Option Addr} {g : Heap} (hf : X.env.frame = some X.env.locals) (k : Caught X pins σ H sI s1 B a cls d g) :
    ∃ ob, g.get? a = some ob ∧ Zc cls d ob ∧ (∃ fs, ob.data = .fields fs) ∧ Inv (X.suite a ((a, ob) :: (X.pn ++ pins))) [] σ H { s1 with heap := g } := by
  obtain ⟨ob, fs, he, hz, hd⟩ := k.fl.there
  refine ⟨ob, he, hz, ⟨_, hd⟩, k.inv.suite he hd k.na (fun z => ?_) fun hm => ?_⟩
  · exact k.off (List.mem_filterMap.mpr ⟨X.env, List.mem_cons_self, by rw [hf, z]⟩)
  · obtain ⟨en, hen, q⟩ := List.mem_filterMap.mp hm
    exact k.off (List.mem_filterMap.mpr ⟨en, List.mem_cons_of_mem _ hen, q⟩)
variable {pins : List (Addr × Obj)} {σ : L2.St} {H : Hp} {sI s1 : Shared} {B : Heap} {a : Addr} {cls : Value} {d : Option Addr} {g : Heap} {D : Ends}
/-- no clause took it: on it goes -/
theorem Caught.on (hs : X.stack = X.env :: X.outer) (hf : X.env.frame = some X.env.locals) (tk : Takes X Wout) (k : Caught X pins σ H sI s1 B a cls d g) (w : Wout cls d σ H) :
    wpAny (model X.prog X.w) X.A (handleBy (.ref a) X.env []) (SP X pins D) X.xe { s1 with heap := g } := by
  apply wpAny_handleBy_nil
  have out : wpAny (model X.prog X.w) X.A (setFlight (.ref a) X.env.frame) (fun _ s4 => wpAny (model X.prog X.w) X.A (throw (.ref a) : Sem Flow) (SP X pins D) X.xe s4) X.xe { s1 with heap := g } := by
    rw [hf]
    refine HandSPX.setFlight_upZ k.fl fun g2 held up2 => ?_
    refine wpAny_throw (tk _ _ ⟨a, B, sI, pins, σ, H, cls, d, rfl, k.J, k.nb, k.up.trans up2, ?_, k.na, k.os, k.ag, w⟩)
    rw [hs]
    exact .inr (.inr held)
  obtain ⟨-, -, -, ob, fs, T, oT, tr, eo, _, ed, e1, -⟩ := id k.fl
  have ne : ¬ ((Value.ref T == Value.none) = true) := by simp
  unfold PySem.passOn
  refine wpAny_bind (wpAny_field eo ed e1 ?_)
  rw [if_neg ne]
  first
    | exact wpAny_bind (wpAny_pure (wpAny_bind out))
    | exact wpAny_bind out
/-- the clause that takes it, without a name -/
theorem Caught.suite0 {st : Stmt} {suite : List Stmt} {p2 : Pos} {ts : Addr → Value → Option Addr → TS} {R : Except Value Flow → Shared → Prop} (hf : X.env.frame = some X.env.locals) (su : SuiteOk X (st :: suite) ts) (k : Caught X pins σ H sI s1 B a cls d g) (w : ts a cls d D σ H)
    (hR : ∀ f s', SP X pins D f s' → R (.ok f) s') : codeAny (model X.prog X.w) (X.A.mark (some (.ref a))) (.handlers (.ref a) [.ExceptHandler none none (st :: suite) p2] X.env) R { s1 with heap := g } := by
  apply codeAny_handlers_suite
  refine HandSPX.lands_againZ k.fl fun g2 fl2 up2 => ?_
  obtain ⟨ob, _, hz, hfs, S⟩ := Caught.in_ hf { k with up := k.up.trans up2, fl := fl2 }
  refine wpAny_mono ((su a ob cls d (X.pn ++ pins) hz hfs).run [] _ σ H D S w) (fun f s' q => hR f s' ?_) (fun _ _ z => False.elim z)
  have ok := k.J.ok
  cases f with
  | ret u => obtain ⟨v, σ2, H2, S2, r, q⟩ := q; exact ⟨v, σ2, H2, S2.unsuite ok, r, q⟩
  | next => obtain ⟨σ2, H2, S2, q⟩ := q; exact ⟨σ2, H2, S2.unsuite ok, q⟩
  | brk => obtain ⟨σ2, H2, S2, q⟩ := q; exact ⟨σ2, H2, S2.unsuite ok, q⟩
  | cont => obtain ⟨σ2, H2, S2, q⟩ := q; exact ⟨σ2, H2, S2.unsuite ok, q⟩
/-- the clause that takes it, with a name -/
theorem Caught.suite1 {st : Stmt} {suite : List Stmt} {p2 p3 : Pos} {n : Str} {i : Nat} {ts : Addr → Value → Option Addr → TS} {R : Except Value Flow → Shared → Prop} (hf : X.env.frame = some X.env.locals) (hN : X.N.Nodup) (hi : X.N[i]? = some n) (hl : X.env.kindOf n = some .local)
    (su : SuiteOk X (st :: suite) ts) (k : Caught X pins σ H sI s1 B a cls d g) (w : ts a cls d (goneE D i) (σ.set i (some (.ref a))) H)
    (hR : ∀ f s', wpAny (model X.prog X.w) X.A (do bindName X.env n .none; unbindBehindTheSuite X.env n p3) (fun _ s2 => SP X pins D f s2) X.xe s' → R (.ok f) s') : codeAny (model X.prog X.w) (X.A.mark (some (.ref a))) (.handlers (.ref a) [.ExceptHandler none (some n) (st :: suite) p2] X.env) R { s1 with heap := g } := by
  apply codeAny_handlers_suite_as
  refine HandSPX.lands_againZ k.fl fun g2 fl2 up2 => ?_
  obtain ⟨ob, _, hz, hfs, S⟩ := Caught.in_ hf { k with up := k.up.trans up2, fl := fl2 }
  refine store_ok (X := X.suite a ((a, ob) :: (X.pn ++ pins))) (v := .ref a) S hN hi (.inl hl) rfl (fun s5 S5 => ?_) (.inr hl)
  refine wpAny_mono ((su a ob cls d (X.pn ++ pins) hz hfs).run [] s5 _ H (goneE D i) S5 w) (fun f s' q => hR f s' ?_) (fun _ _ z => False.elim z)
  have ok := k.J.ok
  cases f with
  | ret u => obtain ⟨v, σ2, H2, S2, r, q⟩ := q; exact gone_ok (S2.unsuite ok) hN hi hl fun s7 J7 => ⟨v, _, H2, J7, r, q⟩
  | next => obtain ⟨σ2, H2, S2, q⟩ := q; exact gone_ok (S2.unsuite ok) hN hi hl fun s7 J7 => ⟨_, H2, J7, q⟩
  | brk => obtain ⟨σ2, H2, S2, q⟩ := q; exact gone_ok (S2.unsuite ok) hN hi hl fun s7 J7 => ⟨_, H2, J7, q⟩
  | cont => obtain ⟨σ2, H2, S2, q⟩ := q; exact gone_ok (S2.unsuite ok) hN hi hl fun s7 J7 => ⟨_, H2, J7, q⟩
/-- the class of a clause is asked for -/
theorem Caught.asks {x : Str} {c : Value} {p1 p2 : Pos} {hit : Bool} {R : Except Value Flow → Shared → Prop} (hf : X.env.frame = some X.env.locals) (nm : Names X x c) (k : Caught X pins σ H sI s1 B a cls d g) (e : PySem.W.exmOne X.K cls c = some hit)
    (hR : R (.ok (if hit then .brk else .next)) { s1 with heap := g }) : codeAny (model X.prog X.w) (X.A.mark (some (.ref a))) (.handlers (.ref a) [.ExceptHandler (some (.Name x p1)) none [] p2] X.env) R { s1 with heap := g } := by
  apply codeAny_handlers_test
  obtain ⟨ob, he, hz, _, S⟩ := k.in_ hf
  have ty : PySem.W.Looks (model X.prog X.w) g (typeOf (.ref a)) cls := fun _ _ _ _ kp q => wpAny_typeOf_ref (kp _ _ he) (by rw [hz.1]; exact q)
  have mt := PySem.W.exm_one (M := model X.prog X.w) k.inv.kIn ty e
  obtain ⟨gl, nd, m | ⟨m, bv, nn⟩⟩ := nm
  · exact ld_glob (X := X.suite a ((a, ob) :: (X.pn ++ pins))) S gl m (mt.here hR) nd
  · exact ld_blt (X := X.suite a ((a, ob) :: (X.pn ++ pins))) S gl m bv (mt.here hR) nn nd
theorem Caught.clauses (hs : X.stack = X.env :: X.outer) (hf : X.env.frame = some X.env.locals) (hN : X.N.Nodup) (tk : Takes X Wout) (k : Caught X pins σ H sI s1 B a cls d g) : ∀ {hds : List ExceptHandler} {l : List Cla}, ClaOk X hds l → wCla X.K Wout D l cls d σ H →
    wpAny (model X.prog X.w) X.A (handleBy (.ref a) X.env hds) (SP X pins D) X.xe { s1 with heap := g } := by
  intro hds l hk
  induction hk with
  | nil => exact fun w => k.on hs hf tk w
  | plain nm su r ih =>
    rintro ⟨hit, e, yes, no⟩
    refine wpAny_handleBy_cons (k.asks hf nm e ?_) (by intro q; cases q)
    cases hit with
    | true => exact k.suite0 hf su (yes rfl a k.na) fun f s' q => q
    | false => exact ih (no rfl)
  | named nm hi hl su r ih =>
    rintro ⟨hit, e, yes, no⟩
    refine wpAny_handleBy_cons (k.asks hf nm e ?_) (by intro q; cases q)
    cases hit with
    | true => exact k.suite1 hf hN hi hl su (yes rfl a k.na) fun f s' q => q
    | false => exact ih (no rfl)
/-- try: .. except A: .. except B as e: .. -/
theorem ps_clauses (hs : X.stack = X.env :: X.outer) (hf : X.env.frame = some X.env.locals) (hN : X.N.Nodup) (tk : Takes X Wout)
    (hb : ∀ (W : WX) (ps : List (Addr × Obj)) (xe : Value → Shared → Prop), Takes (X.tr ps xe) W → PassesOwn (model X.prog X.w) X.A X.env xe → PSs (X.tr ps xe) body (tb W))
    (hh : ClaOk X (h0 :: hds) l) : PS X (.Try body (h0 :: hds) [] [] pos) (fun D σ H => tb (wCla X.K Wout D l) D σ H) := by
  refine ⟨fun ps s σ H D I h => ?_⟩
  have ok := I.ok
  apply wpAny_Try_except
  let xe : Value → Shared → Prop := fun e s1 => wpAny (model X.prog X.w) X.A (noteFrame e X.env) (fun _ s2 => wpAny (model X.prog X.w) X.A (setFlight e none) (fun _ s3 => wpAny (model X.prog X.w) X.A (handleBy e X.env (h0 :: hds)) (SP X ps D) X.xe s3) X.xe s2) X.xe s1
  have tx : Takes (X.tr (X.pn ++ ps) xe) (wCla X.K Wout D l) := fun u s' xx => by
    obtain ⟨a, B, sI, ps', σ2, H2, cls, d, rfl, J', nb, up, sky, na, os, ag, w⟩ := xx
    have sk : Sky B (X.env :: X.outer) a (Zc cls d) X.env.locals s'.heap := by rw [← hs]; exact sky
    refine Sky.land Zc.steady (by rw [ok.frames, hs]) hf sk fun g fl up2 => ?_
    exact Caught.clauses hs hf hN tk ⟨J'.ofTry ok, nb, up.trans up2, os, ag, na, fl⟩ hh w
  refine wpAny_mono ((hb _ (X.pn ++ ps) xe tx PassesOwn.looking).run [] s σ H D (I.toTry _) h) (fun f s1 q => ?_) (fun e s1 he => he)
  cases f with
  | next => obtain ⟨σ2, H2, J, q⟩ := q; exact wpAny_execs_nil ⟨σ2, H2, J.ofTry ok, q⟩
  | ret u => obtain ⟨v, σ2, H2, J, r, q⟩ := q; exact ⟨v, σ2, H2, J.ofTry ok, r, q⟩
  | brk => obtain ⟨σ2, H2, J, q⟩ := q; exact ⟨σ2, H2, J.ofTry ok, q⟩
  | cont => obtain ⟨σ2, H2, J, q⟩ := q; exact ⟨σ2, H2, J.ofTry ok, q⟩
end
end Cs
set_option maxHeartbeats 4000000
namespace Cs
open PySem PySem.Spec PyProof.Rows L2
section
variable {α β γ δ : Type} {W : Wd} {K : PySem.W.Frag} {ta tb tc td : TE} {t : Ty α} {u : Ty β} {x x' : α} {y : β} {tt uu : TT} {ar ak : TA} {fs : List SF} {i : Nat} {E : XK} {ts us vs : TS} {D : Ends} {g : TG} {as : α → List (Nat × SF)} {wi : TI}
/-! ### values whose evaluation changes the things -/
def Evm (W : Wd) (te : TE) (t : Ty α) (P : α → Wd → Prop) : Prop := ∀ σ H, Ok W σ H → ∀ Q : VK, (∀ v x W' H', P x W' → Ok W' σ H' → t.r (hid W'.S H') v x → Q v H') → te σ H Q
theorem go_dropm {P : α → Wd → Prop} (h : Evm W ta t P) (k : ∀ x W', P x W' → Go W' us D) : Go W (tSeq (tDrop ta) us) D := fun σ H o => h σ H o _ fun v x W' H' p o' r => k x W' p σ H' o'
theorem go_drop1m {P : α → Wd → Prop} (h : Evm W ta t P) (k : ∀ x W', P x W' → ∀ σ H, Ok W' σ H → D.nx σ H) : Go W (tDrop ta) D := fun σ H o => h σ H o _ fun v x W' H' p o' r => k x W' p σ H' o'
theorem go_setm {P : α → Wd → Prop} (h : Evm W ta t P) (k : ∀ x W', P x W' → Go (W'.at i (t.is x)) us D) : Go W (tSeq (tAsg ta (gName i)) us) D := fun σ H o => h σ H o _ fun v x W' H' p o' r => k x W' p _ _ (o'.put r)
theorem go_dropx {P : α → Prop} (h : Evx W ta t P) (k : ∀ x, P x → Go W us D) : Go W (tSeq (tDrop ta) us) D := fun σ H o => h σ H o _ fun v x H1 p g r => k x p _ _ g.ok
theorem go_drop1 (h : Ev W ta t x) (k : ∀ σ H, Ok W σ H → D.nx σ H) : Go W (tDrop ta) D := fun σ H o => h σ H o _ fun v H1 g r => k _ _ g.ok
/-- a def that changes the things C and leaves others in their place -/
def spS (C : α → List RS) (A : α → List SF) (w : Ty β) (pre : α → Prop) (post : α → β → List RS → Prop) : Sp := fun vs H Q _ => ∃ (S : List Addr) (x : α), (∀ a ∈ S, H a ≠ none) ∧ (fps (C x)).Nodup ∧ (∀ a, a ∈ fps (C x) → a ∈ S) ∧ RsAt (C x) S H ∧
  Fits (hid S H) (A x) vs ∧ pre x ∧ ∀ v y N C' H', post x y C' → Bt (fps (C x)) H H' → (∀ a, a ∈ N → H a = none ∧ H' a ≠ none) → (fps C').Nodup → (∀ a, a ∈ fps C' → a ∈ fps (C x) ∨ a ∈ N) → (∀ a, a ∈ fps (C x) → H' a ≠ none) → RsAt C' (N ++ S) H' → w.r (hid (N ++ S) H') v y → Q v H'
/-- the world behind it -/
def Aft (W : Wd) (R : List RS) (post : List RS → Prop) (W' : Wd) : Prop := ∃ N C', post C' ∧ W' = { W with S := N ++ W.S, L := C' ++ R }
theorem aft_of {C R : List RS} {σ : L2.St} {H H1 : Hp} {N : List Addr} {C' : List RS} (o : Ok W σ H1) (hL : W.L.Perm (C ++ R)) (b : Bt (fps C) H1 H) (hN : ∀ a, a ∈ N → H1 a = none ∧ H a ≠ none) (nd : (fps C').Nodup) (hC' : ∀ a, a ∈ fps C' → a ∈ fps C ∨ a ∈ N) (al : ∀ a, a ∈ fps C → H a ≠ none) (rs : RsAt C' (N ++ W.S) H) :
    Ok { W with S := N ++ W.S, L := C' ++ R } σ H := ((o.perm hL).change1 (C := C) (C' := C') (R := R) (N := N) rfl b hN nd hC' al rs).1
theorem evm_call {C : γ → List RS} {A : γ → List SF} {w : Ty β} {pre : γ → Prop} {post : γ → β → List RS → Prop} {z : γ} {R : List RS} (h : Ea W ar (A z)) (hp : pre z) (hL : W.L.Perm (C z ++ R)) : Evm W (tCall (spS C A w pre post) [] E ar) w (fun y => Aft W R (post z y)) := fun σ H o Q q => h σ H o _ fun vs H1 g1 r1 => by
  have o1 := g1.ok.perm hL
  refine ⟨W.S, z, g1.ok.al, (nodup_app.mp o1.nod).1, fun a m => ?_, fun r m => o1.at_ r (List.mem_append_left _ m), by rw [List.append_nil]; exact r1, hp, fun v y N C' H2 py b hN nd hC' al rs r => ?_⟩
  · obtain ⟨r, m1, m2⟩ := of_fps m
    exact (o1.own a (mem_fps (List.mem_append_left _ m1) m2)).1
  · exact q v y _ H2 ⟨N, C', py, rfl⟩ (aft_of g1.ok hL b hN nd hC' al rs) r
/-! ### methods -/
/-- the thing r says: at b an instance of C, without an own attribute named m -/
def IsOb (r : RS) (b C : Addr) (m : Str) : Prop := ∀ F H, r.p F H → ∃ dx fs, H b = some (.ins C dx fs) ∧ fs.lookup m = none
theorem evx_meth {r : RS} {b Cl : Addr} {m : Str} {C : γ → List RS} {A : γ → List SF} {w : Ty β} {pre : γ → Prop} {post : γ → β → Prop} {z : γ} {gs : List SF} (hi : IsOb r b Cl m) (hr : r ∈ W.L) (ho : Ev W ta tRf b) (h : Ea W ar gs) (hA : A z = tRf.is b :: gs) (hp : pre z) (hC : (C z).Sublist W.L := by first | exact List.nil_sublist _ | exact List.Sublist.refl _ | exact List.singleton_sublist.mpr (by simp) | simp) :
    Evx W (tMeth Cl m (spN C A w pre post) [] E ta ar) w (post z) := fun σ H o Q q => ho σ H o _ fun v0 H0 g0 r0 => by
  obtain rfl : v0 = .ref b := r0
  obtain ⟨dx, fs, h1, h2⟩ := hi _ _ (g0.ok.at_ r hr)
  refine ⟨b, dx, fs, rfl, h1, h2, h σ H0 g0.ok _ fun vs H1 g1 r1 => ?_⟩
  have sub : ∀ a, a ∈ fps (C z) → a ∈ W.S := fun a m => by
    obtain ⟨r, m1, m2⟩ := of_fps m
    exact (g1.ok.own a (mem_fps (hC.subset m1) m2)).1
  refine ⟨W.S, z, g1.ok.al, (fps_sub hC).nodup g1.ok.nod, sub, fun r m => g1.ok.at_ r (hC.subset m), by rw [List.append_nil, hA]; exact ⟨rfl, r1⟩, hp, fun v y H2 py bt al c rr => ?_⟩
  exact q v y H2 py ((g0.trans g1).trans (g1.ok.after (fun r m => hC.subset m) bt al c)) rr
theorem evm_meth {r : RS} {b Cl : Addr} {m : Str} {C : γ → List RS} {A : γ → List SF} {w : Ty β} {pre : γ → Prop} {post : γ → β → List RS → Prop} {z : γ} {R : List RS} {gs : List SF} (hi : IsOb r b Cl m) (hr : r ∈ W.L) (ho : Ev W ta tRf b) (h : Ea W ar gs) (hA : A z = tRf.is b :: gs) (hp : pre z) (hL : W.L.Perm (C z ++ R)) :
    Evm W (tMeth Cl m (spS C A w pre post) [] E ta ar) w (fun y => Aft W R (post z y)) := fun σ H o Q q => ho σ H o _ fun v0 H0 g0 r0 => by
  obtain rfl : v0 = .ref b := r0
  obtain ⟨dx, fs, h1, h2⟩ := hi _ _ (g0.ok.at_ r hr)
  refine ⟨b, dx, fs, rfl, h1, h2, h σ H0 g0.ok _ fun vs H1 g1 r1 => ?_⟩
  have o1 := g1.ok.perm hL
  refine ⟨W.S, z, g1.ok.al, (nodup_app.mp o1.nod).1, fun a m => ?_, fun r m => o1.at_ r (List.mem_append_left _ m), by rw [List.append_nil, hA]; exact ⟨rfl, r1⟩, hp, fun v y N C' H2 py b hN nd hC' al rs r => ?_⟩
  · obtain ⟨r, m1, m2⟩ := of_fps m
    exact (o1.own a (mem_fps (List.mem_append_left _ m1) m2)).1
  · exact q v y _ H2 ⟨N, C', py, rfl⟩ (aft_of g1.ok hL b hN nd hC' al rs) r
/-- e.f, a property -/
theorem evx_prop {r : RS} {b Cl : Addr} {C : γ → List RS} {A : γ → List SF} {w : Ty β} {pre : γ → Prop} {post : γ → β → Prop} {z : γ} (hi : ∀ F H, r.p F H → ∃ dx fs, H b = some (.ins Cl dx fs)) (hr : r ∈ W.L) (ho : Ev W ta tRf b) (hA : A z = [tRf.is b]) (hp : pre z) (hC : (C z).Sublist W.L := by first | exact List.nil_sublist _ | exact List.Sublist.refl _ | exact List.singleton_sublist.mpr (by simp) | simp) :
    Evx W (tProp Cl (spN C A w pre post) [] E ta) w (post z) := fun σ H o Q q => ho σ H o _ fun v0 H0 g0 r0 => by
  obtain rfl : v0 = .ref b := r0
  obtain ⟨dx, fs, h1⟩ := hi _ _ (g0.ok.at_ r hr)
  have sub : ∀ a, a ∈ fps (C z) → a ∈ W.S := fun a m => by
    obtain ⟨r, m1, m2⟩ := of_fps m
    exact (g0.ok.own a (mem_fps (hC.subset m1) m2)).1
  refine ⟨b, dx, fs, rfl, h1, W.S, z, g0.ok.al, (fps_sub hC).nodup g0.ok.nod, sub, fun r m => g0.ok.at_ r (hC.subset m), by rw [hA]; exact ⟨rfl, trivial⟩, hp, fun v y H2 py bt al c rr => ?_⟩
  exact q v y H2 py (g0.trans (g0.ok.after (fun r m => hC.subset m) bt al c)) rr
theorem start_slots {H : Hp} {fs : List SF} {vs : List V} {N : List Str} {m i : Nat} {f : SF} (hm : vs.length = m) (ft : Fits H fs vs) (q : (fs.map some ++ List.replicate (N.length - m) none)[i]? = some (some f)) : ∃ v, (L2.start N vs)[i]? = some (some v) ∧ f.p H v := by
  unfold L2.start
  by_cases l : i < fs.length
  · rw [List.getElem?_append_left (by simpa using l), List.getElem?_map] at q
    cases c : fs[i]? with
    | none => rw [c] at q; cases q
    | some z =>
      rw [c] at q
      obtain rfl : z = f := Option.some.inj (Option.some.inj q)
      obtain ⟨v, hv, hz⟩ := ft.get c
      exact ⟨v, by rw [List.getElem?_append_left (by simpa [ft.length] using l), List.getElem?_map, hv]; rfl, hz⟩
  · rw [List.getElem?_append_right (by simpa using l)] at q
    have := List.mem_of_getElem? q
    rw [List.mem_replicate] at this
    exact absurd this.2 (by simp)
/-! ### the end of a def that changes things -/
/-- what such a promise wants at its end -/
def RtS (C : List RS) (S : List Addr) (H : Hp) (w : Ty β) (P : β → List RS → Prop) (Q : VK) : Prop := ∀ v y N C' H', P y C' → Bt (fps C) H H' → (∀ a, a ∈ N → H a = none ∧ H' a ≠ none) → (fps C').Nodup → (∀ a, a ∈ fps C' → a ∈ fps C ∨ a ∈ N) → (∀ a, a ∈ fps C → H' a ≠ none) → RsAt C' (N ++ S) H' → w.r (hid (N ++ S) H') v y → Q v H'
theorem ends_S {C C' : List RS} {S N : List Addr} {w : Ty β} {P : β → List RS → Prop} {Q : VK} {σ : L2.St} {H : Hp} {v : V} (o : Ok W σ H) (out : RtS C S W.H0 w P Q) (r : w.r (hid W.S H) v y) (hp : P y C') (hS : W.S = N ++ S) (hL : W.L.Perm C') (hM : W.M = fps C) (al : ∀ a, a ∈ S → W.H0 a ≠ none) (hN : ∀ a, a ∈ N → a ∈ fps C' ∧ a ∉ S) (hMS : ∀ a, a ∈ fps C → a ∈ S) : Q v H := by
  have o' := o.perm hL
  have fr : ∀ a, a ∈ N → W.H0 a = none := fun a m => by
    rcases (o'.own a (hN a m).1).2 with q | q
    · exact absurd (hMS a (by rw [← hM]; exact q)) (hN a m).2
    · exact q
  refine out v y N C' H hp (by rw [← hM]; exact o.bt) (fun a m => ⟨fr a m, o.al a (by rw [hS]; exact List.mem_append_left _ m)⟩) o'.nod (fun a m => ?_) (fun a m => o.al a (o.ms a (by rw [hM]; exact m))) (fun r m => ?_) (by rw [← hS]; exact r)
  · have := (o'.own a m).1
    have h1 : a ∈ N ++ S := by rw [← hS]; exact this
    rcases List.mem_append.mp h1 with q | q
    · exact .inr q
    · rcases (o'.own a m).2 with z | z
      · exact .inl (by rw [← hM]; exact z)
      · exact absurd z (al a q)
  · have := o'.at_ r m
    rw [← hS]
    exact this
theorem ok_S {P : Program} {w : World} {mg : Str → Option Value} {base : Heap} {nm qual : Str} {st : Stmt} {f : Addr} {fd : FuncData} {N ps : List Str} {k : Nat} {C : α → List RS} {A : α → List SF} {wt : Ty β} {pre : α → Prop} {post : α → β → List RS → Prop}
    (F : Fun K nm qual st f fd) (S : FnScope N ps (defScope st)) (hl : ∀ x, (A x).length = ps.length)
    (body : ∀ (cdv : Value) (A' : Around) (outer : List Env) (s : Shared) (H0 : Hp) (S : List Addr) (x : α) (Q : VK) (E : XK), Room k (A'.deeper (envOfC qual (defScope st) s.heap.objs.size f cdv)) → pre x → (∀ a, a ∈ S → H0 a ≠ none) → (∀ a, a ∈ fps (C x) → a ∈ S) → RtS (C x) S H0 wt (post x) Q →
      ∃ t, PSs (cxOf CX0 P w K mg base N qual (defScope st) f cdv A' outer s H0 E).nox (defBody st) t ∧ Go ⟨H0, fps (C x), S, C x, [], (A x).map some ++ List.replicate (N.length - ps.length) none⟩ t { nx := fun _ H' => Q .non H', rt := Q }) :
    FnOk P w K mg base CX0 (k + 1) f fd ps (spS C A wt pre post) := by
  refine F.ok S (fun vs H Q E h => ?_) (fun cdv A' outer s H vs Q E hr h => ?_)
  · obtain ⟨S', x, _, _, _, _, ft, _⟩ := h
    rw [ft.length, hl]
  · obtain ⟨S', x, al, nd, sub, cc, ft, hp, out⟩ := h
    obtain ⟨t, h1, h2⟩ := body cdv A' outer s H S' x Q E hr hp al sub (fun v y N' C' H' => out v y N' C' H')
    refine ⟨t, h1, h2 _ _ ⟨nd, fun a m => ⟨sub a m, .inl m⟩, cc, sub, al, Bt.refl, ?_, (fun f m => nomatch m), fun i f' q => ?_⟩⟩
    · have e1 := ft.length
      have e2 := hl x
      show (L2.start N vs).length = _
      unfold L2.start
      simp only [List.length_append, List.length_map, List.length_replicate]
      omega
    · exact start_slots (by rw [ft.length, hl]) ft q
end
end Cs
set_option maxHeartbeats 4000000
namespace Cs
open PySem PySem.Spec PyProof.Rows L2
/-! ### methods by their promise -/
def CalM (P : Program) (w : World) (K : PySem.W.Frag) (mg : Str → Option Value) (base : Heap) (k : Nat) (C : Addr) (m : Str) (ps : List Str) (sp : Sp) : Prop :=
  ∃ (f : Addr) (fd : FuncData), Meth K C m f ∧ FnOk P w K mg base CX0 k f fd ps sp ∧ Binds K fd ps []
def CalMX (P : Program) (w : World) (K : PySem.W.Frag) (mg : Str → Option Value) (base : Heap) (k : Nat) (C : Addr) (m : Str) (ps : List Str) (sp : Sp) : Prop :=
  ∃ (f : Addr) (fd : FuncData), Meth K C m f ∧ FnOk P w K mg base (L2.CX P w) k f fd ps sp ∧ Binds K fd ps []
def CalP (P : Program) (w : World) (K : PySem.W.Frag) (mg : Str → Option Value) (base : Heap) (k : Nat) (C : Addr) (n : Str) (sp : Sp) : Prop :=
  ∃ (p f : Addr) (fd : FuncData), PropOf K C n p f ∧ FnOk P w K mg base CX0 k f fd ["self"] sp ∧ Binds K fd ["self"] []
section
variable {P : Program} {w : World} {K : PySem.W.Frag} {mg : Str → Option Value} {base : Heap} {k j : Nat} {C : Addr} {m : Str} {ps : List Str} {sp : Sp}
theorem CalM.mono (c : CalM P w K mg base j C m ps sp) (h : j ≤ k) : CalM P w K mg base k C m ps sp := by
  obtain ⟨f, fd, M, F, b⟩ := c
  exact ⟨f, fd, M, F.mono h, b⟩
theorem CalMX.mono (c : CalMX P w K mg base j C m ps sp) (h : j ≤ k) : CalMX P w K mg base k C m ps sp := by
  obtain ⟨f, fd, M, F, b⟩ := c
  exact ⟨f, fd, M, F.mono h, b⟩
theorem CalP.mono (c : CalP P w K mg base j C m sp) (h : j ≤ k) : CalP P w K mg base k C m sp := by
  obtain ⟨p, f, fd, M, F, b⟩ := c
  exact ⟨p, f, fd, M, F.mono h, b⟩
end
/-- how the call of a method is told -/
abbrev MCall (X : Cx) (o : Expr) (m : Str) (es : List Expr) (apos pos : Pos) (pl : Sem Bool) : Prop := eval (.Call (.Attribute o m apos) es [] pos) X.env = (eval o X.env >>= fun ov => standAt apos.atName >>= fun _ => holding [ov] (getMethod ov m pl) >>= fun q =>
  callWith pos q.1 q.2 (backTo pos (starEach es X.env)) (backToKw pos (keywordEach [] X.env)))
/-- o.m(e, ..) that may raise, by the slots -/
def tMethX (C : Addr) (m : Str) (sp : Sp) (E : L2.St → XK) (ta : TE) (t : TA) : TE := fun σ H Q => ta σ H fun x H1 => ∃ a dx fs, x = .ref a ∧ H1 a = some (.ins C dx fs) ∧ fs.lookup m = none ∧ t σ H1 fun vs H2 => sp (x :: vs) H2 Q (E σ)
section
variable {X : Cx} {k : Nat} {C : Addr} {m : Str} {ps : List Str} {sp : Sp} {p pos apos : Pos} {o e : Expr} {es : List Expr} {ta : TE} {t : TA} {E : XK} {pl : Sem Bool}
theorem pe_calM (he : PE X o ta) (c : CalM X.prog X.w X.K X.mg X.base k C m ps sp) (cl : Cls X.K C) (hr : Room k X.A) (ha : PA X (e :: es) t) (hst : starEach (e :: es) X.env = (false, eval e X.env) :: starEach es X.env := by rfl) (hpl : (backTo pos (starEach es X.env)).any (·.1) = false := by rfl)
    (ht : MCall X o m (e :: es) apos pos pl := by rfl) : PE X (.Call (.Attribute o m apos) (e :: es) [] pos) (tMeth C m sp [] E0 ta t) := by
  obtain ⟨f, fd, M, F, b⟩ := c
  exact pe_meth he cl M F hr b .nil (fun _ _ _ _ _ _ _ z => z.elim) ha hst hpl ht
theorem pe_calM0 (he : PE X o ta) (c : CalM X.prog X.w X.K X.mg X.base k C m ps sp) (cl : Cls X.K C) (hr : Room k X.A)
    (ht : MCall X o m [] apos pos pl := by rfl) : PE X (.Call (.Attribute o m apos) [] [] pos) (tMeth C m sp [] E0 ta tNil) := by
  obtain ⟨f, fd, M, F, b⟩ := c
  exact pe_meth0 he cl M F hr b .nil (fun _ _ _ _ _ _ _ z => z.elim) ht
theorem pe_calMX (he : PE X o ta) (c : CalMX X.prog X.w X.K X.mg X.base k C m ps sp) (cl : Cls X.K C) (hr : Room k X.A) (hx : Passes (L2.CX X.prog X.w) X E) (ha : PA X (e :: es) t) (hst : starEach (e :: es) X.env = (false, eval e X.env) :: starEach es X.env := by rfl) (hpl : (backTo pos (starEach es X.env)).any (·.1) = false := by rfl)
    (ht : MCall X o m (e :: es) apos pos pl := by rfl) : PE X (.Call (.Attribute o m apos) (e :: es) [] pos) (tMeth C m sp [] E ta t) := by
  obtain ⟨f, fd, M, F, b⟩ := c
  exact pe_meth he cl M F hr b .nil hx ha hst hpl ht
theorem pe_calMS {E : L2.St → XK} (he : PE X o ta) (c : CalMX X.prog X.w X.K X.mg X.base k C m ps sp) (cl : Cls X.K C) (hr : Room k X.A) (hx : ∀ σ, PassesAt (L2.CX X.prog X.w) X σ (E σ)) (ha : PA X (e :: es) t) (hst : starEach (e :: es) X.env = (false, eval e X.env) :: starEach es X.env := by rfl) (hpl : (backTo pos (starEach es X.env)).any (·.1) = false := by rfl)
    (ht : MCall X o m (e :: es) apos pos pl := by rfl) : PE X (.Call (.Attribute o m apos) (e :: es) [] pos) (tMethX C m sp E ta t) := by
  obtain ⟨f, fd, M, F, b⟩ := c
  refine ⟨fun pins s σ H Q I h => PySem.W.methodCall_KW (pl := pl) (thn (he.run pins s σ H _ I h) fun u s1 => ?_) ht⟩
  rintro ⟨y, H1, I1, ry, a, dx, fs, rfl, at1, lk, q⟩
  obtain rfl : u = .ref a := ry
  refine getmeth_ok I1 at1 cl M lk (PySem.W.callWith_K (first := [.ref a]) (h₀ := X.base) I1.ok.mod.kin M.kp (thn (ha.run pos pins s1 σ H1 _ I1 q) fun us s2 => ?_) hst hpl)
  rintro ⟨vs, H2, I2, r, q2⟩
  exact ⟨I2.kIn, run_fnS (us := .ref a :: us) (vs := .ref a :: vs) F hr b (hx σ) I2 (.cons rfl r) q2⟩
end
section
variable {X : Cx} {k : Nat} {C : Addr} {n : Str} {sp : Sp} {pos : Pos} {o : Expr} {ta : TE} {E : XK}
theorem pe_calP (he : PE X o ta) (c : CalP X.prog X.w X.K X.mg X.base k C n sp) (cl : Cls X.K C) (hr : Room (k + 1) X.A) (hab : attributeBase o n X.env (eval o X.env) = eval o X.env := by rfl) : PE X (.Attribute o n pos) (tProp C sp [] E0 ta) := by
  obtain ⟨p, f, fd, M, F, b⟩ := c
  exact pe_prop he cl M F hr b .nil (fun _ _ _ _ _ _ _ z => z.elim) hab
end
/-! ### promises to raise -/
section
variable {α β γ δ : Type} {W : Wd} {K : PySem.W.Frag} {ta tb tc td : TE} {t : Ty α} {u : Ty β} {x x' : α} {y : β} {tt uu : TT} {ar ak : TA} {fs : List SF} {i : Nat} {E : XK} {ts us vs : TS} {D : Ends}
/-- an error of the class at CE with such attributes; the things C keep what they promise -/
def spE (C : α → List RS) (A : α → List SF) (pre : α → Prop) (CE : Addr) (flds : α → List (Str × SF)) : Sp := fun vs H _ E => ∃ (S : List Addr) (x : α), (∀ a ∈ S, H a ≠ none) ∧ (fps (C x)).Nodup ∧ (∀ a, a ∈ fps (C x) → a ∈ S) ∧ RsAt (C x) S H ∧ Fits (hid S H) (A x) vs ∧ pre x ∧
  ∀ d fs H', Bt (fps (C x)) H H' → (∀ a, a ∈ fps (C x) → H' a ≠ none) → RsAt (C x) S H' → H' d = some (.xd fs) → FldAt (hid S H') fs (flds x) → E (.ref CE) (some d) H'
/-- where an error of the world W goes: the wish w, at these slots -/
def Flies (W : Wd) (σ : L2.St) (CE : Addr) (flds : List (Str × SF)) (w : XK) : Prop := ∀ d fs H', Ok W σ H' → H' d = some (.xd fs) → FldAt (hid W.S H') fs flds → w (.ref CE) (some d) H'
theorem evx_methE {r : RS} {b Cl CE : Addr} {m : Str} {C : γ → List RS} {A : γ → List SF} {w : Ty β} {pre : γ → Prop} {flds : γ → List (Str × SF)} {z : γ} {gs : List SF} {EE : L2.St → XK} (hi : IsOb r b Cl m) (hr : r ∈ W.L) (ho : Ev W ta tRf b) (h : Ea W ar gs) (hA : A z = tRf.is b :: gs) (hp : pre z) (fl : ∀ σ, Flies W σ CE (flds z) (EE σ))
    (hC : (C z).Sublist W.L := by first | exact List.nil_sublist _ | exact List.Sublist.refl _ | exact List.singleton_sublist.mpr (by simp) | simp) : Evx W (tMethX Cl m (spE C A pre CE flds) EE ta ar) w (fun _ => False) := fun σ H o Q q => ho σ H o _ fun v0 H0 g0 r0 => by
  obtain rfl : v0 = .ref b := r0
  obtain ⟨dx, fs, h1, h2⟩ := hi _ _ (g0.ok.at_ r hr)
  refine ⟨b, dx, fs, rfl, h1, h2, h σ H0 g0.ok _ fun vs H1 g1 r1 => ?_⟩
  have sub : ∀ a, a ∈ fps (C z) → a ∈ W.S := fun a m => by
    obtain ⟨r, m1, m2⟩ := of_fps m
    exact (g1.ok.own a (mem_fps (hC.subset m1) m2)).1
  refine ⟨W.S, z, g1.ok.al, (fps_sub hC).nodup g1.ok.nod, sub, fun r m => g1.ok.at_ r (hC.subset m), by rw [hA]; exact ⟨rfl, r1⟩, hp, fun d xs H2 bt al c hd hf => ?_⟩
  exact fl σ d xs H2 (g1.ok.after (fun r m => hC.subset m) bt al c).ok hd hf
/-- the same, one wish at all slots -/
theorem evx_methE0 {r : RS} {b Cl CE : Addr} {m : Str} {C : γ → List RS} {A : γ → List SF} {w : Ty β} {pre : γ → Prop} {flds : γ → List (Str × SF)} {z : γ} {gs : List SF} (hi : IsOb r b Cl m) (hr : r ∈ W.L) (ho : Ev W ta tRf b) (h : Ea W ar gs) (hA : A z = tRf.is b :: gs) (hp : pre z) (fl : ∀ σ, Flies W σ CE (flds z) E)
    (hC : (C z).Sublist W.L := by first | exact List.nil_sublist _ | exact List.Sublist.refl _ | exact List.singleton_sublist.mpr (by simp) | simp) : Evx W (tMeth Cl m (spE C A pre CE flds) [] E ta ar) w (fun _ => False) := fun σ H o Q q => ho σ H o _ fun v0 H0 g0 r0 => by
  obtain rfl : v0 = .ref b := r0
  obtain ⟨dx, fs, h1, h2⟩ := hi _ _ (g0.ok.at_ r hr)
  refine ⟨b, dx, fs, rfl, h1, h2, h σ H0 g0.ok _ fun vs H1 g1 r1 => ?_⟩
  have sub : ∀ a, a ∈ fps (C z) → a ∈ W.S := fun a m => by
    obtain ⟨r, m1, m2⟩ := of_fps m
    exact (g1.ok.own a (mem_fps (hC.subset m1) m2)).1
  refine ⟨W.S, z, g1.ok.al, (fps_sub hC).nodup g1.ok.nod, sub, fun r m => g1.ok.at_ r (hC.subset m), by rw [List.append_nil, hA]; exact ⟨rfl, r1⟩, hp, fun d xs H2 bt al c hd hf => ?_⟩
  exact fl σ d xs H2 (g1.ok.after (fun r m => hC.subset m) bt al c).ok hd hf
/-- `__init__` of an error that keeps its one argument as n -/
def spXi (K : PySem.W.Frag) (C : Addr) (n : Str) : Sp := fun vs H Q _ => ∃ (a : Addr) (v : V), vs = [.ref a, v] ∧ OexC K C ∧ PySem.W.findIn K (.ref C) n = some none ∧ H a = some (exo a C none) ∧ ∀ dx, H dx = none → dx ≠ a → Q .non (upd (upd H dx (exd dx [(n, v)])) a (exo a C (some dx)))
/-- raise C(e) -/
theorem go_raise {C : Addr} {n : Str} {WW : WX} (T : OexC K C) (hn : PySem.W.findIn K (.ref C) n = some none) (h : Ev W ta t x) (fl : ∀ σ, Flies W σ C [(n, t.is x)] (fun c d H => WW c d σ H)) : Go W (fun _ σ H => tMkO C (spXi K C n) [] (tCons ta tNil) σ H fun cls d H' => WW cls d σ H') D := fun σ H o => h σ H o _ fun v H1 g r => by
  refine ⟨by show 1 ≤ 1000; decide, fun a na => ⟨a, v, rfl, T, hn, upd_same, fun dx nx ne => ⟨rfl, dx, [(n, v)], upd_same, by rw [upd_ne ne, upd_same], ?_, ?_⟩⟩⟩
  · rw [upd_ne ne] at nx
    exact nx
  · rw [upd_ne ne] at nx
    have e1 : Same H1 (upd (del (upd (upd (upd H1 a (exo a C none)) dx (exd dx [(n, v)])) a (exo a C (some dx))) a) dx (.xd [(n, v)])) := fun b ob hb => by
      have b1 : b ≠ a := fun q => by rw [q, na] at hb; cases hb
      have b2 : b ≠ dx := fun q => by rw [q, nx] at hb; cases hb
      rw [upd_ne b2, del_ne b1, upd_ne b1, upd_ne b2, upd_ne b1]
      exact hb
    refine fl σ dx [(n, v)] _ (g.ok.same e1) upd_same fun m f mm => ?_
    rw [List.mem_singleton] at mm
    obtain ⟨rfl, rfl⟩ := Prod.mk.inj mm
    exact ⟨v, by simp [List.lookup], t.mono (hid_same e1) r⟩
/-- a def that raises -/
theorem ok_E {P : Program} {w : World} {mg : Str → Option Value} {base : Heap} {nm qual : Str} {st : Stmt} {f : Addr} {fd : FuncData} {N ps : List Str} {k : Nat} {C : α → List RS} {A : α → List SF} {pre : α → Prop} {CE : Addr} {flds : α → List (Str × SF)}
    (F : Fun K nm qual st f fd) (S : FnScope N ps (defScope st)) (hl : ∀ x, (A x).length = ps.length)
    (body : ∀ (cdv : Value) (A' : Around) (outer : List Env) (s : Shared) (H0 : Hp) (S : List Addr) (x : α) (Q : VK) (E : XK), Room k (A'.deeper (envOfC qual (defScope st) s.heap.objs.size f cdv)) → pre x → (∀ σ F G, Flies ⟨H0, fps (C x), S, C x, F, G⟩ σ CE (flds x) E) →
      ∃ t, PSs (cxOf (L2.CX P w) P w K mg base N qual (defScope st) f cdv A' outer s H0 E) (defBody st) t ∧ Go ⟨H0, fps (C x), S, C x, [], (A x).map some ++ List.replicate (N.length - ps.length) none⟩ t { nx := fun _ H' => Q .non H', rt := Q }) :
    FnOk P w K mg base (L2.CX P w) (k + 1) f fd ps (spE C A pre CE flds) := by
  refine F.okX S (fun vs H Q E h => ?_) (fun cdv A' outer s H vs Q E hr h => ?_)
  · obtain ⟨S', x, _, _, _, _, ft, _⟩ := h
    rw [ft.length, hl]
  · obtain ⟨S', x, al, nd, sub, cc, ft, hp, out⟩ := h
    obtain ⟨t, h1, h2⟩ := body cdv A' outer s H S' x Q E hr hp fun σ F' G d fs H' o hd hf => out d fs H' o.bt (fun a m => o.al a (sub a m)) o.at_ hd hf
    refine ⟨t, h1, h2 _ _ ⟨nd, fun a m => ⟨sub a m, .inl m⟩, cc, sub, al, Bt.refl, ?_, (fun f m => nomatch m), fun i f' q => ?_⟩⟩
    · have e1 := ft.length
      have e2 := hl x
      show (L2.start N vs).length = _
      unfold L2.start
      simp only [List.length_append, List.length_map, List.length_replicate]
      omega
    · exact start_slots (by rw [ft.length, hl]) ft q
end
end Cs
set_option maxHeartbeats 4000000
namespace Cs
open PySem PySem.Spec PyProof.Rows L2
/-! ### what a thing says -/
/-- at q stands o -/
def Says (r : RS) (q : Addr) (o : HO) : Prop := ∀ F H, r.p F H → H q = some o
/-- at q a list of such values -/
def SaysL (r : RS) (q : Addr) {α : Type} (t : Ty α) (xs : List α) : Prop := ∀ F H, r.p F H → ∃ vs, H q = some (.lst vs) ∧ All2 (t.r F) vs xs
/-- at b an instance of C whose attribute n is at q -/
def SaysF (r : RS) (b C : Addr) (n : Str) (q : Addr) : Prop := ∀ F H, r.p F H → ∃ dx fs, H b = some (.ins C dx fs) ∧ fs.lookup n = some (.ref q)
section
variable {α β γ δ : Type} {W : Wd} {K : PySem.W.Frag} {ta tb tc td ty : TE} {t : Ty α} {u : Ty β} {x x' : α} {y : β} {tt uu : TT} {ar ak : TA} {fs : List SF} {i : Nat} {E : XK} {ts us vs : TS} {D : Ends} {r : RS} {q b C : Addr} {n z : Str} {kvs : List (Key × V)} {xs : List α}
theorem ev_fldR (hr : r ∈ W.L) (hs : SaysF r b C n q) (ho : Ev W ta tRf b) (cl : Cls K C) (na : NoAttr K C n) : Ev W (tFld K ta n) tRf q := fun σ H o Q k => ho σ H o _ fun v0 H0 g0 r0 => by
  obtain rfl : v0 = .ref b := r0
  obtain ⟨dx, fs, h1, h2⟩ := hs _ _ (g0.ok.at_ r hr)
  exact ⟨b, C, dx, fs, .ref q, rfl, h1, cl, na, h2, k _ H0 g0 rfl⟩
theorem et_inR (hr : r ∈ W.L) (hs : Says r q (.dK kvs)) (ha : Ev W ty tSt z) (hd : Ev W td tRf q) : Et W (tB (tDIn ty td)) ((valV kvs (Sum.inr z)).isSome) := fun σ H o Q k =>
  ha σ H o _ fun v H1 g1 r1 => hd σ H1 g1.ok _ fun w H2 g2 r2 => by
    obtain rfl : w = .ref q := r2
    refine ⟨q, valV kvs (Sum.inr z), rfl, ?_, _, rfl, k H2 (g1.trans g2)⟩
    rw [show v = kV (Sum.inr z) from r1]
    exact DGet.k (hs _ _ (g2.ok.at_ r hr))
theorem et_niR (hr : r ∈ W.L) (hs : Says r q (.dK kvs)) (ha : Ev W ty tSt z) (hd : Ev W td tRf q) : Et W (tB (tDNotIn ty td)) (!(valV kvs (Sum.inr z)).isSome) := fun σ H o Q k =>
  ha σ H o _ fun v H1 g1 r1 => hd σ H1 g1.ok _ fun w H2 g2 r2 => by
    obtain rfl : w = .ref q := r2
    refine ⟨q, valV kvs (Sum.inr z), rfl, ?_, _, rfl, k H2 (g1.trans g2)⟩
    rw [show v = kV (Sum.inr z) from r1]
    exact DGet.k (hs _ _ (g2.ok.at_ r hr))
theorem ev_dgetR {p : Addr} (hr : r ∈ W.L) (hs : Says r q (.dK kvs)) (hd : Ev W td tRf q) (ha : Ev W ty tSt z) (e : valV kvs (Sum.inr z) = some (.ref p)) : Ev W (tDGet td ty) tRf p := fun σ H o Q k =>
  hd σ H o _ fun w H1 g1 r1 => ha σ H1 g1.ok _ fun v H2 g2 r2 => by
    obtain rfl : w = .ref q := r1
    refine ⟨q, .ref p, rfl, ?_, k _ H2 (g1.trans g2) rfl⟩
    rw [show v = kV (Sum.inr z) from r2, ← e]
    exact DGet.k (hs _ _ (g2.ok.at_ r hr))
/-- xs[n], xs a list that is the thing's own -/
theorem ev_ixR {m : Int} (hr : r ∈ W.L) (hs : SaysL r q t xs) (ha : Ev W ta tRf q) (hb : Ev W tb tInt m) (e : atI xs m = some x) : Ev W (tOp (rIxL K) ta tb) t x := fun σ H o Q k =>
  ha σ H o _ fun v H1 g1 r1 => hb σ H1 g1.ok _ fun v2 H2 g2 r2 => by
    obtain rfl : v = .ref q := r1
    obtain ⟨vs, h1, al⟩ := hs _ _ (g2.ok.at_ r hr)
    have : ∃ z, atI vs m = some z ∧ t.r (hid W.S H2) z x := by
      unfold atI at e ⊢
      rw [al.length]
      cases c : ixN xs.length m with
      | none => rw [c] at e; cases e
      | some k => rw [c] at e; exact al.get e
    obtain ⟨z, hz, rz⟩ := this
    exact ⟨q, vs, m, z, rfl, r2, SqL.of h1, hz, k z H2 (g1.trans g2) rz⟩
theorem et_truR (hr : r ∈ W.L) (hs : SaysL r q t xs) (ha : Ev W ta tRf q) : Et W (fun σ H Q => ta σ H fun x H' => ∃ k, TruV K x H' k ∧ Q k H') (!xs.isEmpty) := fun σ H o Q k =>
  ha σ H o _ fun v H1 g1 r1 => by
    obtain rfl : v = .ref q := r1
    obtain ⟨vs, h1, al⟩ := hs _ _ (g1.ok.at_ r hr)
    have e : (!xs.isEmpty) = !vs.isEmpty := by
      cases vs <;> cases xs <;> first | rfl | exact al.elim
    exact ⟨!xs.isEmpty, .inl ⟨vs, SqL.of h1, by rw [e]⟩, k H1 g1⟩
theorem ev_lenR (hr : r ∈ W.L) (hs : SaysL r q t xs) (ha : Ev W ta tRf q) : Ev W (tCB (fun xs H Q => ∃ p ys, xs = [.ref p] ∧ (SqL K H p ys ∨ SqT K H p ys) ∧ Q (.int ys.length) H) (tCons ta tNil)) tInt (xs.length : Int) := fun σ H o Q k =>
  ha σ H o _ fun v H1 g1 r1 => by
    obtain rfl : v = .ref q := r1
    obtain ⟨vs, h1, al⟩ := hs _ _ (g1.ok.at_ r hr)
    exact ⟨q, vs, rfl, .inl (SqL.of h1), k _ H1 g1 (by rw [al.length]; rfl)⟩
theorem ev_listR (hr : r ∈ W.L) (hs : SaysL r q t xs) (ha : Ev W ta tRf q) : Ev W (tCB (fun xs H Q => ∃ p ys, xs = [.ref p] ∧ (SqL K H p ys ∨ SqT K H p ys) ∧ ∀ l, H l = none → Q (.ref l) (upd H l (.lst ys))) (tCons ta tNil)) (tLs K t) xs := fun σ H o Q k =>
  ha σ H o _ fun v H1 g1 r1 => by
    obtain rfl : v = .ref q := r1
    obtain ⟨vs, h1, al⟩ := hs _ _ (g1.ok.at_ r hr)
    exact ⟨q, vs, rfl, .inl (SqL.of h1), fun l nl => k _ _ (g1.trans (g1.ok.new nl)) ⟨l, vs, rfl, (by rw [hid_of (g1.ok.off nl)]; exact upd_same), All2.mono (fun _ _ => t.mono (g1.ok.new nl).up) al⟩⟩
/-! ### walks over a list of the thing -/
/-- at q the list of these values, each with what it is -/
def SaysR (r : RS) (q : Addr) {α : Type} (t : Ty α) (vxs : List (V × α)) : Prop := ∀ F H, r.p F H → H q = some (.lst (vxs.map (·.1))) ∧ ∀ p ∈ vxs, t.r F p.1 p.2
theorem all2_tags {α : Type} {rel : V → α → Prop} : ∀ {vxs : List (V × α)}, (∀ p ∈ vxs, rel p.1 p.2) → All2 rel (vxs.map (·.1)) (vxs.map (·.2))
  | [], _ => trivial
  | p :: l, h => ⟨h p (List.mem_cons_self ..), all2_tags fun q m => h q (List.mem_cons_of_mem _ m)⟩
theorem tags_of {α : Type} {rel : V → α → Prop} : ∀ {vs : List V} {xs : List α}, All2 rel vs xs → ∃ vxs : List (V × α), vxs.map (·.1) = vs ∧ vxs.map (·.2) = xs ∧ ∀ p ∈ vxs, rel p.1 p.2
  | [], [], _ => ⟨[], rfl, rfl, fun p m => nomatch m⟩
  | v :: vs, x :: xs, h => by
    obtain ⟨l, h1, h2, h3⟩ := tags_of h.2
    refine ⟨(v, x) :: l, by rw [List.map_cons, h1], by rw [List.map_cons, h2], fun p m => ?_⟩
    rcases List.mem_cons.mp m with m | m
    · rw [m]; exact h.1
    · exact h3 p m
  | [], _ :: _, h => h.elim
  | _ :: _, [], h => h.elim
theorem SaysR.l {vxs : List (V × α)} (h : SaysR r q t vxs) : SaysL r q t (vxs.map (·.2)) := fun F H p => ⟨_, (h F H p).1, all2_tags (h F H p).2⟩
structure WksR {α : Type} (J : It) (r : RS) (t : Ty α) (xs : List α) : Prop where
  ex : ∃ Y, Walk J xs.length (fun H => ∃ S, r.p (hid S H) H) Y ∧ ∀ i H v H' S, i < xs.length → r.p (hid S H) H → (∀ a ∈ S, H a ≠ none) → Y i H v H' → Same H H' ∧ ∃ x, xs[i]? = some x ∧ t.r (hid S H') v x
def IvR {α : Type} (W : Wd) (wi : TI) (r : RS) (t : Ty α) (xs : List α) : Prop := ∀ σ H, Ok W σ H → ∀ R : It → Hp → Prop, (∀ J H1, Go1 W σ H H1 → WksR J r t xs → R J H1) → wi σ H R
theorem ivR_list {vxs : List (V × α)} (hr : r ∈ W.L) (hs : SaysR r q t vxs) (ha : Ev W ta tRf q) : IvR W (iList K ta) r t (vxs.map (·.2)) := fun σ H o R k => ha σ H o _ fun v H1 g1 r1 => by
  obtain rfl : v = .ref q := r1
  have h1 := hs _ _ (g1.ok.at_ r hr)
  refine ⟨q, rfl, ⟨_, SqL.of h1.1⟩, k _ _ g1 ⟨YAt (vxs.map (·.1)), ?_, fun i H v H' S hi z _ ⟨e1, e2⟩ => ?_⟩⟩
  · rw [List.length_map, ← List.length_map (f := fun p : V × α => p.1)]
    exact walk_list.mono (fun H ⟨S, z⟩ => SqL.of (hs _ _ z).1) fun i H v H' _ _ h => h
  · subst e1
    rw [List.getElem?_map] at e2 ⊢
    cases c : vxs[i]? with
    | none => rw [c] at e2; cases e2
    | some p =>
      rw [c] at e2
      obtain rfl : p.1 = v := Option.some.inj e2
      exact ⟨Same.refl _, p.2, rfl, (hs _ _ z).2 p (List.mem_of_getElem? c)⟩
theorem evx_lcR {wi : TI} {g : TG} {as : α → List (Nat × SF)} {P : α → Bool → Prop} {R : α → β → Prop} {vs : List Nat} (hr : r ∈ W.L) (h : IvR W wi r t xs) (tg : Tgt g t as) (hi : ∀ x, ∀ p ∈ as x, p.1 ∈ vs) (hl : xs.length < sizeLine)
    (ht : ∀ D φ F x, (∀ f ∈ W.F, f ∈ F) → x ∈ xs → Etx ((W.el D φ F vs).puts (as x)) tt (P x))
    (he : ∀ D φ F x, (∀ f ∈ W.F, f ∈ F) → x ∈ xs → P x true → Evx ((W.el D φ F vs).puts (as x)) tb u (R x)) (hp : ∀ (W : Wd) x, (W.puts (as x)).H0 = W.H0 ∧ (W.puts (as x)).M = W.M ∧ (W.puts (as x)).S = W.S ∧ (W.puts (as x)).L = W.L ∧ (W.puts (as x)).F = W.F := by intros; exact ⟨rfl, rfl, rfl, rfl, rfl⟩) :
    Evx W (tLc wi g tt tb vs) (tLs K u) (LcR P R xs) := fun σ H o Q q => by
  refine h σ H o _ fun J H1 g1 wk => ?_
  intro D nD
  obtain ⟨Y, wY, hY⟩ := wk.ex
  let Wk : List β → Wd := fun ys => ⟨W.H0, W.M, D :: W.S, cell D (cLs u ys) :: W.L, ffS (hid W.S H1) :: W.F, W.G⟩
  have start : Ok (Wk []) σ (upd H1 D (.lst [])) := by
    obtain ⟨o1, up⟩ := g1.ok.cell (ψ := cLs u ([] : List β)) nD ⟨[], rfl, trivial⟩
    exact Ok.know o1 (f := ffS (hid W.S H1)) up
  have ff : ∀ ys H, Ok (Wk ys) σ H → r.p (hid (D :: W.S) H) H := fun ys H o => o.at_ r (List.mem_cons_of_mem _ hr)
  refine lc_it wY (fun k H' => ∃ ys, LcR P R (xs.take k) ys ∧ Ok (Wk ys) σ H') ⟨[], .nil, start⟩ (fun k H' _ ⟨ys, _, o'⟩ => ⟨_, ff ys H' o'⟩) ?_ ?_
  · rintro k v H0' H' hk ⟨ys, rel, o'⟩ y
    obtain ⟨e, x, hx, rx⟩ := hY k H0' v H' _ hk (ff ys H0' o') o'.al y
    have o' := o'.same e
    have xm := List.mem_of_getElem? hx
    have sub : ∀ q ∈ W.F, q ∈ ffS (hid W.S H1) :: W.F := fun q m => List.mem_cons_of_mem _ m
    refine tg _ _ H' v x (Ok.wipe (vs := vs) o') rx _ fun σ' oe ew => ?_
    refine ⟨by rw [ew vs (hi x), wipe_twice], ?_⟩
    have back : ∀ H2, Go1 (((W.el D (cLs u ys) (ffS (hid W.S H1) :: W.F) vs).puts (as x))) σ' H' H2 → Ok (Wk ys) σ H2 := fun H2 g2 => by
      obtain ⟨p1, p2, p3, p4, p5⟩ := hp (W.el D (cLs u ys) (ffS (hid W.S H1) :: W.F) vs) x
      have o2 := g2.ok
      have up := g2.up
      rw [p3] at up
      have o3 : Ok { Wk ys with G := ((W.el D (cLs u ys) (ffS (hid W.S H1) :: W.F) vs).puts (as x)).G } σ' H2 := by
        have : ((W.el D (cLs u ys) (ffS (hid W.S H1) :: W.F) vs).puts (as x)) = { Wk ys with G := ((W.el D (cLs u ys) (ffS (hid W.S H1) :: W.F) vs).puts (as x)).G } := by
          generalize ((W.el D (cLs u ys) (ffS (hid W.S H1) :: W.F) vs).puts (as x)) = Z at p1 p2 p3 p4 p5 ⊢
          cases Z
          cases p1; cases p2; cases p3; cases p4; cases p5
          rfl
        rw [← this]
        exact o2
      exact Ok.swap (W := Wk ys) o' o3 up
    refine ht D _ _ x sub xm _ _ oe _ fun b H2 pb g2 => ?_
    cases b with
    | false =>
      refine iteF ⟨ys, ?_, back H2 g2⟩
      rw [take_snoc hx]
      exact .skip rel pb
    | true =>
      refine iteT ?_
      refine he D _ _ x sub xm pb _ _ g2.ok _ fun w z H3 pz g3 rz => ?_
      have o3 := back H3 (g2.trans g3)
      obtain ⟨ob, hob, us', rfl, hus⟩ := o3.at_ _ (List.mem_cons_self ..)
      refine ⟨us', hob, ?_, ys ++ [z], ?_, ?_⟩
      · rw [hus.length]
        refine Nat.lt_of_le_of_lt (Nat.le_trans rel.len ?_) hl
        rw [List.length_take]
        omega
      · rw [take_snoc hx]
        exact .take rel pb pz
      · rw [(hp (W.el D (cLs u ys) (ffS (hid W.S H1) :: W.F) vs) x).2.2.1] at rz
        exact (o3.write (ψ := cLs u (ys ++ [z])) (o := .lst (us' ++ [w])) rfl ⟨_, rfl, hus.app (ws := [w]) (ys := [z]) ⟨rz, trivial⟩⟩).ok
  · rintro H' ⟨ys, rel, o2⟩
    rw [List.take_length] at rel
    obtain ⟨ob, hob, us', rfl, hus⟩ := o2.at_ _ (List.mem_cons_self ..)
    have up := o2.facts (ffS (hid W.S H1)) (List.mem_cons_self ..)
    have less : Same (hid (D :: W.S) H') (hid W.S H') := hid_less fun a h => List.mem_cons_of_mem _ h
    have o3 := Ok.drop (N := [D]) o2 (ok_sub g1.ok) g1.ok.ms
    have o4 : Ok W σ H' := ⟨o3.nod, o3.own, o3.at_, o3.ms, o3.al, o3.bt, o3.len, fun f m => o3.facts f (List.mem_cons_of_mem _ m), o3.slots⟩
    refine q _ ys _ rel (g1.trans ⟨o4, up.trans less⟩) ⟨D, us', rfl, ?_, All2.mono (fun _ _ => u.mono less) hus⟩
    rw [hid_of (g1.ok.off nD)]
    exact hob
theorem ev_lcfR {wi : TI} {g : TG} {as : α → List (Nat × SF)} {p : α → Bool} {f : α → β} {vs : List Nat} (hr : r ∈ W.L) (h : IvR W wi r t xs) (tg : Tgt g t as) (hi : ∀ x, ∀ p ∈ as x, p.1 ∈ vs) (hl : xs.length < sizeLine)
    (ht : ∀ D φ F x, (∀ f ∈ W.F, f ∈ F) → x ∈ xs → Et ((W.el D φ F vs).puts (as x)) tt (p x))
    (he : ∀ D φ F x, (∀ f ∈ W.F, f ∈ F) → x ∈ xs → p x = true → Ev ((W.el D φ F vs).puts (as x)) tb u (f x)) (hp : ∀ (W : Wd) x, (W.puts (as x)).H0 = W.H0 ∧ (W.puts (as x)).M = W.M ∧ (W.puts (as x)).S = W.S ∧ (W.puts (as x)).L = W.L ∧ (W.puts (as x)).F = W.F := by intros; exact ⟨rfl, rfl, rfl, rfl, rfl⟩) :
    Ev W (tLc wi g tt tb vs) (tLs K u) ((xs.filter p).map f) := fun σ H o Q q =>
  evx_lcR (P := fun x b => b = p x) (R := fun x y => y = f x) hr h tg hi hl (fun D φ F x hF hx => (ht D φ F x hF hx).toX rfl) (fun D φ F x hF hx e => (he D φ F x hF hx e.symm).x rfl) hp σ H o Q fun v ys H' r g1 rr => q v H' g1 (r.det ▸ rr)
theorem ev_lcmR {wi : TI} {g : TG} {as : α → List (Nat × SF)} {f : α → β} {vs : List Nat} (hr : r ∈ W.L) (h : IvR W wi r t xs) (tg : Tgt g t as) (hi : ∀ x, ∀ p ∈ as x, p.1 ∈ vs) (hl : xs.length < sizeLine)
    (he : ∀ D φ F x, (∀ f ∈ W.F, f ∈ F) → x ∈ xs → Ev ((W.el D φ F vs).puts (as x)) tb u (f x)) (hp : ∀ (W : Wd) x, (W.puts (as x)).H0 = W.H0 ∧ (W.puts (as x)).M = W.M ∧ (W.puts (as x)).S = W.S ∧ (W.puts (as x)).L = W.L ∧ (W.puts (as x)).F = W.F := by intros; exact ⟨rfl, rfl, rfl, rfl, rfl⟩) :
    Ev W (tLc wi g tYes tb vs) (tLs K u) (xs.map f) :=
  ev_is (ev_lcfR (p := fun _ => true) hr h tg hi hl (fun _ _ _ _ _ _ => et_yes) (fun D φ F x hF hx _ => he D φ F x hF hx) hp) (by rw [filter_yes])
theorem all2_str (H : Hp) : ∀ ns : List Str, All2 (tSt.r H) (ns.map V.str) ns
  | [] => trivial
  | _ :: ns => ⟨rfl, all2_str H ns⟩
/-- list(d) -/
theorem ev_listD (hr : r ∈ W.L) (hs : Says r q (.dK kvs)) (ha : Ev W ta tRf q) {ns : List Str} (e : kvs.map (·.1) = ns.map Sum.inr) : Ev W (tCB (fun xs H Q => ∃ (a : Addr) (kvs : List (Key × V)), xs = [.ref a] ∧ Rd H a (.dK kvs) ∧ ∀ p, H p = none → Q (.ref p) (upd H p (.lst (kvs.map fun kv => kV kv.1)))) (tCons ta tNil)) (tLs K tSt) ns := fun σ H o Q k =>
  ha σ H o _ fun v H1 g1 r1 => by
    obtain rfl : v = .ref q := r1
    refine ⟨q, kvs, rfl, .inl (hs _ _ (g1.ok.at_ r hr)), fun l nl => k _ _ (g1.trans (g1.ok.new nl)) ⟨l, _, rfl, (by rw [hid_of (g1.ok.off nl)]; exact upd_same), ?_⟩⟩
    have e2 : (kvs.map fun kv => kV kv.1) = ns.map V.str := by
      have := congrArg (List.map kV) e
      rw [List.map_map, List.map_map] at this
      exact this
    rw [e2]
    exact all2_str _ ns
end
section
variable {X : Cx} {K : PySem.W.Frag}
theorem call_list_ofK (hk : X.K = K) : CallR X (.type "list") (fun xs H Q => ∃ p ys, xs = [.ref p] ∧ (SqL K H p ys ∨ SqT K H p ys) ∧ ∀ l, H l = none → Q (.ref l) (upd H l (.lst ys))) := hk ▸ call_list_of
end
end Cs
set_option maxHeartbeats 4000000
namespace Cs
open PySem PySem.Spec PyProof.Rows L2
/-! ### the other deck: the script's list, the next cell, what is left of a cell, the state, how many draws are left -/
def StO (l : Addr) (b c e g : Int) : HO := .lst [.ref l, .int b, .int c, .int e, .int g]
def StA (K : PySem.W.Frag) (H : Hp) (d l : Addr) (ns : List Int) : Prop := ∃ b c e g : Int, H d = some (StO l b c e g) ∧ SqL K H l (ns.map V.int) ∧ l ≠ d ∧ 0 ≤ b
theorem stA_of {K : PySem.W.Frag} {H H1 : Hp} {d l : Addr} {ns : List Int} {b c e g : Int} (hl : SqL K H l (ns.map V.int)) (ne : l ≠ d) (hb : But d H H1) (h : H1 d = some (StO l b c e g)) (b0 : 0 ≤ b) : StA K H1 d l ns := ⟨b, c, e, g, h, hb.seq ne hl, ne, b0⟩
def spStateA (K : PySem.W.Frag) : Sp := fun vs H Q _ => ∃ (a : Addr) (ns : List Int), vs = [.ref a] ∧ SqL K H a (ns.map V.int) ∧ ∀ d l H', Same H H' → H d = none → H l = none → StA K H' d l ns → Q (.ref d) H'
def spDrawSA (K : PySem.W.Frag) : Sp := fun vs H Q _ => ∃ (d : Addr) (m : Int) (l : Addr) (ns : List Int), vs = [.ref d, .int m] ∧ 0 < m ∧ m.natAbs < 2 ^ 8000 ∧ StA K H d l ns ∧ ∀ v H', 0 ≤ v → v < m → But d H H' → StA K H' d l ns → Q (.int v) H'
def cSt (K : PySem.W.Frag) (d l : Addr) (ns : List Int) : CF := ⟨fun F o => ∃ b c e g, o = StO l b c e g ∧ SqL K F l (ns.map V.int) ∧ l ≠ d ∧ 0 ≤ b, fun e ⟨b, c, f, g, h, z, k⟩ => ⟨b, c, f, g, h, e.seq z, k⟩⟩
section
variable {α β γ : Type} {W : Wd} {K : PySem.W.Frag} {ta tb tc : TE} {t : Ty α} {u : Ty β} {x x' : α} {y : β} {tt uu : TT} {ar : TA} {fs : List SF} {i j : Int} {E : XK} {ts us : TS} {D : Ends} {z z' : Str} {g : TG} {as : α → List (Nat × SF)} {wi : TI}
theorem evx_drawS {m : Int} {s : Nat} {d l : Addr} {ns : List Int} (hs : W.G[s]? = some (some (tRf.is d))) (hL : cell d (cSt K d l ns) ∈ W.L) (hm : Ev W ta tInt m) (m0 : 0 < m) (mb : m.natAbs < 2 ^ 8000) :
    Evx W (tCall (spDrawSA K) [] E (tCons (tVar s) (tCons ta tNil))) tInt (fun v => 0 ≤ v ∧ v < m) := fun σ H o Q q => by
  obtain ⟨v, h1, rfl⟩ := o.slots s _ hs
  refine ⟨.ref d, h1, ?_⟩
  refine hm σ H o _ fun v H1 g1 r => ?_
  obtain ⟨ob, hob, b, c, e, gg, rfl, hl, ne, b0⟩ := g1.ok.at_ _ hL
  refine ⟨d, m, l, ns, by rw [show v = .int m from r]; rfl, m0, mb, ⟨b, c, e, gg, hob, hid_sub.seq hl, ne, b0⟩, fun w H2 w0 w1 bt ⟨b', c', e', gg', hob', _, _, b0'⟩ => ?_⟩
  have fd : fps [cell d (cSt K d l ns)] = [d] := rfl
  have bt' : Bt (fps [cell d (cSt K d l ns)]) H1 H2 := fun a o n h => bt a o (fun z => n (by rw [fd, z]; exact List.mem_cons_self ..)) h
  have hd : d ∈ W.S := (g1.ok.own d (mem_fps hL (List.mem_cons_self ..))).1
  have up : Same (hid W.S H1) (hid W.S H2) := bt'.hid (N := []) (fun a m => by rw [fd] at m; rw [List.mem_singleton.mp m]; exact hd) (fun a m => nomatch m)
  have g2 := g1.ok.after (C := [cell d (cSt K d l ns)]) (fun r m => by rw [List.mem_singleton.mp m]; exact hL) bt' (fun a m => by rw [fd] at m; rw [List.mem_singleton.mp m, hob']; simp) (fun r m => by
    rw [List.mem_singleton.mp m]
    exact ⟨_, hob', b', c', e', gg', rfl, up.seq hl, ne, b0'⟩)
  exact q _ w H2 ⟨w0, w1⟩ (g1.trans g2) rfl
/-- state = _law_state(script) -/
theorem go_state {ns : List Int} {s n : Nat} (hs : W.G[s]? = some (some ((tSc K).is ns))) (k : ∀ d l, Go ⟨W.H0, W.M, d :: W.S, cell d (cSt K d l ns) :: W.L, W.F, W.G.set n (some (tRf.is d))⟩ us D) : Go W (tSeq (tAsg (tCall (spStateA K) [] E (tCons (tVar s) tNil)) (gName n)) us) D := fun σ H o => by
  obtain ⟨v, h1, p, rfl, hq⟩ := o.slots s _ hs
  refine ⟨.ref p, h1, p, ns, rfl, ?_, fun d l H' e nd nl ⟨b, c, f, gg, hd, hl, ne, b0⟩ => ?_⟩
  · exact hid_sub.seq hq
  · have o1 := o.same e
    have nl' : l ∉ [d] ++ W.S := fun z => by
      rcases List.mem_cons.mp z with z | z
      · exact ne z
      · exact o.al l z nl
    have e2 : Bt (fps ([] : List RS)) H H' := Bt.of e
    obtain ⟨o2, _⟩ := o.change1 (C := []) (C' := [cell d (cSt K d l ns)]) (R := W.L) (N := [d]) (H' := H') rfl e2 (fun a m => by rw [List.mem_singleton.mp m]; exact ⟨nd, by rw [hd]; simp⟩) (by show [d].Nodup; simp) (fun a m => .inr m) (fun a m => nomatch m) (fun r m => by
      rw [List.mem_singleton.mp m]
      refine ⟨_, hd, b, c, f, gg, rfl, ?_, ne, b0⟩
      rcases hl with (hl | ⟨ob, hl⟩) | hl
      · exact .inl (.inl (by rw [hid_of nl']; exact hl))
      · exact .inl (.inr ⟨ob, by rw [hid_of nl']; exact hl⟩)
      · exact .inr hl)
    exact k d l _ _ (Ok.put (i := n) (f := tRf.is d) o2 rfl)
/-! ### lowest terms -/
def spLow : Sp := fun vs H Q _ => ∃ p q : Int, vs = [.int p, .int q] ∧ 0 < q ∧ p.natAbs < 2 ^ 2400 ∧ q.natAbs < 2 ^ 2400 ∧ ∀ t H', Same H H' → H t = none → H' t = some (nd (Rat.divInt p q)) → Q (.ref t) H'
theorem ev_low {p q : Int} (ha : Ev W ta tInt p) (hb : Ev W tb tInt q) (q0 : 0 < q) (hp : p.natAbs < 2 ^ 2400) (hq : q.natAbs < 2 ^ 2400) : Ev W (tCall spLow [] E (tCons ta (tCons tb tNil))) (tFr K) (Rat.divInt p q) := fun σ H o Q k =>
  ha σ H o _ fun v H1 g1 r1 => hb σ H1 g1.ok _ fun v2 H2 g2 r2 => ⟨p, q, by rw [show v = .int p from r1, show v2 = .int q from r2]; rfl, q0, hp, hq, fun a H3 e na ha =>
    k _ _ ((g1.trans g2).trans (g2.ok.go e)) ⟨a, rfl, SqT.of (by rw [hid_of (g2.ok.off na)]; exact ha)⟩⟩
theorem evx_low {P P' : Int → Prop} (ha : Evx W ta tInt P) (hb : Evx W tb tInt P') (c : ∀ p q, P p → P' q → 0 < q ∧ p.natAbs < 2 ^ 2400 ∧ q.natAbs < 2 ^ 2400) : Evx W (tCall spLow [] E (tCons ta (tCons tb tNil))) (tFr K) (fun r => ∃ p q, P p ∧ P' q ∧ r = Rat.divInt p q) := fun σ H o Q k =>
  ha σ H o _ fun v p H1 pp g1 r1 => hb σ H1 g1.ok _ fun v2 q H2 pq g2 r2 => ⟨p, q, by rw [show v = .int p from r1, show v2 = .int q from r2]; rfl, (c p q pp pq).1, (c p q pp pq).2.1, (c p q pp pq).2.2, fun a H3 e na ha =>
    k _ _ _ ⟨p, q, pp, pq, rfl⟩ ((g1.trans g2).trans (g2.ok.go e)) ⟨a, rfl, SqT.of (by rw [hid_of (g2.ok.off na)]; exact ha)⟩⟩
theorem evx_sub {P P' : Int → Prop} (ha : Evx W ta tInt P) (hb : Evx W tb tInt P') : Evx W (tOp (rI0 fun i j => .int (i - j)) ta tb) tInt (fun s => ∃ i j, P i ∧ P' j ∧ s = i - j) := fun σ H o Q q =>
  ha σ H o _ fun v i H1 p1 g1 r1 => hb σ H1 g1.ok _ fun v2 j H2 p2 g2 r2 => ⟨i, j, r1, r2, q _ _ H2 ⟨i, j, p1, p2, rfl⟩ (g1.trans g2) rfl⟩
end
end Cs
set_option maxHeartbeats 4000000
namespace Cs
open PySem PySem.Spec PyProof.Rows L2
/-! ### list(d.values()) -/
/-- list(d.values()), d a dict -/
def tListVals (td : TE) : TE := fun σ H Q => td σ H fun x H1 => ∃ (a : Addr) (kvs : List (Key × V)), x = .ref a ∧ H1 a = some (.dK kvs) ∧ ∀ q, H1 q = none → Q (.ref q) (upd H1 q (.lst (kvs.map (·.2))))
theorem vals_at : ∀ {kvs : List (Key × V)} {vs : List (Key × Value)} {us : List Value}, KV kvs vs → us.length = vs.length → (∀ (j : Nat) (v : Value), us[j]? = some v → ∃ k : Key, vs[j]? = some (k, v)) → Vals (kvs.map (·.2)) us := fun {kvs vs us} r hl h => by
  have e : us = vs.map (·.2) := by
    refine List.ext_getElem? fun j => ?_
    rw [List.getElem?_map]
    cases c : us[j]? with
    | none =>
      rw [List.getElem?_eq_none_iff] at c
      rw [List.getElem?_eq_none (by omega)]
      rfl
    | some v =>
      obtain ⟨k, hk⟩ := h j v c
      rw [hk]
      rfl
  rw [e]
  clear h hl e
  unfold KV at r
  induction r with
  | nil => exact .nil
  | cons q _ ih => exact .cons q.2 ih
theorem pe_listVals {X : Cx} {o : Expr} {td : TE} {p pos apos mpos : Pos} (hc : X.calm = true) (hg : Gl X "list") (hm : X.mg "list" = none) (hd : PE X o td) (hbase : attributeBase o "values" X.env (eval o X.env) = eval o X.env := by rfl) (hline : (apos.endLine == mpos.line) = true := by rfl)
    (hs : starEach [.Call (.Attribute o "values" apos) [] [] mpos] X.env = (false, eval (.Call (.Attribute o "values" apos) [] [] mpos) X.env) :: starEach [] X.env := by rfl) : PE X (.Call (.Name "list" p) [.Call (.Attribute o "values" apos) [] [] mpos] [] pos) (tListVals td) := by
  refine ⟨fun ps s σ H Q I h => ?_⟩
  refine Call_ (ld_blt I hg hm boot_list (PyProof.Rows.callWith_type1 (args_cons ?_ hs) hs rfl))
  refine wpAny_Call_method (T := "dict") (id := "dict.values") hbase rfl hline F.plainAttrs_dict F.slot_dict_values F.type_dict_values (thn (hd.run ps s σ H _ I h) fun u s1 => ?_)
  rintro ⟨x, H1, I1, rx, a, kvs, rfl, ha, q⟩
  obtain rfl : u = Value.ref a := rx
  obtain ⟨z, lo, vs, rel, dof⟩ := dk_of I1.hok ha
  obtain ⟨ep, dat⟩ := dof.dictAt
  refine ⟨dof.typeIs, dof.mapOf.noDict, ?_⟩
  show wpAny _ _ (callWith mpos (.builtin "dict.values") [.ref a] [] []) _ X.xe s1
  have up : ∀ b ob, s1.heap.get? b = some ob → (s1.heap.push { cls := .type "dict_values", data := .fields #[.ref a] }).get? b = some ob := fun b ob e => Heap.get?_push_of_some _ e
  have I2 : Inv X ps σ H1 { s1 with heap := s1.heap.push { cls := .type "dict_values", data := .fields #[.ref a] } } := I1.kept (t' := s1.toks) up
  refine method_meetsIn F.slot_dict_values F.entry_dict_values rfl (PySem.evalArgs_none ⟨rfl, dof.typeIs, F.args_dict_values_1 _, _, meets_dict_values (mixKind X.prog X.w) a lo, ⟨vs, dof⟩, args_nil ?_⟩)
  refine PySem.W.kdl_call (PySem.W.kdl_values (knd := mixKind X.prog X.w) (r := s1.heap.objs.size) (d := a) (kvs := vs) (ep := ep)) (I1.ok.hd hc) ⟨⟨_, Heap.get?_push_size _ rfl, rfl, rfl⟩, dat.push _⟩ (by rw [← Paired.length rel]; exact z) fun h' tk acc c' hk hD hacc => ?_
  have hv : Vals (kvs.map (·.2)) acc.toList := vals_at rel (by rw [Array.length_toList]; exact hacc.1) fun j v e => hacc.2 j v (by rw [← Array.getElem?_toList]; exact e)
  refine ⟨.ref _, upd H1 _ (.lst (kvs.map (·.2))), I2.laid (t' := tk) hk (Nat.le_refl _) (show ObjOk X.prog X.w _ _ _ (.lst (kvs.map (·.2))) from ⟨by rw [List.length_map]; exact z, acc.toList, c', hv, by rw [Array.toArray_toList]; exact hD⟩), rfl, q _ (I2.hok.fresh (Nat.le_refl _))⟩
end Cs
set_option maxHeartbeats 4000000
namespace Cs
open PySem PySem.Spec PyProof.Rows L2
/-! ### a dict by names, a cell of its own -/
abbrev Tag (α : Type) := Str × V × α
def mapKv {α : Type} (ms : List (Tag α)) : List (Key × V) := ms.map fun m => (Sum.inr m.1, m.2.1)
def cMap {α : Type} (t : Ty α) (ms : List (Tag α)) : CF := ⟨fun F o => o = .dK (mapKv ms) ∧ ∀ m ∈ ms, t.r F m.2.1 m.2.2, fun e ⟨h, g⟩ => ⟨h, fun m mm => t.mono e (g m mm)⟩⟩
def tagOf {α : Type} (ms : List (Tag α)) (z : Str) : Option (Tag α) := ms.find? fun m => decide (m.1 = z)
def putM {α : Type} (ms : List (Tag α)) (z : Str) (v : V) (x : α) : List (Tag α) := if (ms.any fun m => decide (m.1 = z)) = true then ms.map (fun m => if m.1 = z then (m.1, v, x) else m) else ms ++ [(z, v, x)]
section
variable {α β γ δ : Type} {W : Wd} {K : PySem.W.Frag} {ta tb tc td ty tx : TE} {t : Ty α} {u : Ty β} {x x' : α} {y : β} {tt uu : TT} {ar ak : TA} {fs : List SF} {i : Nat} {E : XK} {ts us vs : TS} {D : Ends} {p : Addr} {z : Str} {ms : List (Tag α)}
theorem map_get : ∀ {ms : List (Tag α)} {z : Str}, valV (mapKv ms) (Sum.inr z) = (tagOf ms z).map fun m => m.2.1
  | [], _ => rfl
  | m :: ms, z => by
    have ih := map_get (ms := ms) (z := z)
    unfold valV mapKv tagOf at ih ⊢
    rw [List.map_cons, List.find?_cons, List.find?_cons]
    by_cases q : m.1 = z
    · simp [q]
    · simp only [Sum.inr.injEq, q, decide_false]
      exact ih
theorem map_put {ms : List (Tag α)} {z : Str} {v : V} {x : α} : putK (mapKv ms) (Sum.inr z) v = mapKv (putM ms z v x) := by
  unfold putK putM mapKv
  have e : ((ms.map fun m => ((Sum.inr m.1 : Key), m.2.1)).any fun kv => decide (kv.1 = Sum.inr z)) = ms.any fun m => decide (m.1 = z) := by
    rw [List.any_map]
    congr 1
    funext m
    simp
  rw [e]
  split
  · rw [List.map_map, List.map_map]
    refine List.map_congr_left fun m _ => ?_
    by_cases q : m.1 = z
    · simp [q]
    · simp [q]
  · rw [List.map_append]
    rfl
/-- d = {} -/
theorem go_newM (t : Ty α) (k : ∀ p, p ∉ W.S → Go ⟨W.H0, W.M, p :: W.S, cell p (cMap t []) :: W.L, W.F, W.G.set i (some (tRf.is p))⟩ us D) : Go W (tSeq (tAsg tDNewK (gName i)) us) D := fun σ H o =>
  fun p np => k p (o.off np) _ _ (Ok.put (i := i) (f := tRf.is p) (o.cell (ψ := cMap t []) np ⟨rfl, fun m mm => nomatch mm⟩).1 rfl)
/-- d.get(z, e) -/
theorem ev_getM (hL : cell p (cMap t ms) ∈ W.L) (hd : Ev W td tRf p) (ha : Ev W ty tSt z) (hx : Ev W tx t x) : Ev W (tDGet2 td ty tx) t (((tagOf ms z).map fun m => m.2.2).getD x) := fun σ H o Q k =>
  hd σ H o _ fun w H1 g1 r1 => by
    obtain rfl : w = .ref p := r1
    obtain ⟨o1, ho1, rfl, _⟩ := g1.ok.at_ _ hL
    refine ⟨p, rfl, ?_, ha σ H1 g1.ok _ fun v H2 g2 r2 => hx σ H2 g2.ok _ fun v3 H3 g3 r3 => ?_⟩
    · exact .inl ⟨_, .inl ho1⟩
    · obtain ⟨o3, ho3, rfl, ht⟩ := g3.ok.at_ _ hL
      refine ⟨(tagOf ms z).map fun m => m.2.1, ?_, ?_⟩
      · rw [show v = kV (Sum.inr z) from r2, ← map_get]
        exact DGet.k ho3
      · cases q : tagOf ms z with
        | none =>
          rw [q] at k
          exact k _ H3 ((g1.trans g2).trans g3) r3
        | some m =>
          rw [q] at k
          exact k _ H3 ((g1.trans g2).trans g3) (ht m (List.mem_of_find?_eq_some q))
/-- d[z] = e -/
theorem go_putM {s : Nat} {R : List RS} {P : α → Prop} (hs : W.G[s]? = some (some (tRf.is p))) (hL : W.L.Perm (cell p (cMap t ms) :: R)) (ha : Ev W ty tSt z) (hb : Evx W tb t P) (hl : ms.length < sizeLine) (k : ∀ v x, P x → ∀ σ H, Ok { W with L := cell p (cMap t (putM ms z v x)) :: R } σ H → D.nx σ H) : Go W (sDPut (tVar s) ty tb) D := fun σ H o =>
  hb σ H o _ fun v x H1 px g1 r1 => by
    obtain ⟨w, h1, rfl⟩ := g1.ok.slots s _ hs
    refine ⟨.ref p, h1, ha σ H1 g1.ok _ fun y H2 g2 ry => ?_⟩
    obtain ⟨ob, hob, rfl, ht⟩ := g2.ok.at_ (cell p (cMap t ms)) (hL.mem_iff.mpr (List.mem_cons_self ..))
    refine ⟨p, upd H2 p (.dK (mapKv (putM ms z v x))), rfl, ?_, k v x px _ _ ((g2.ok.perm hL).write (ψ := cMap t (putM ms z v x)) (o := .dK (mapKv (putM ms z v x))) rfl ⟨rfl, fun m mm => ?_⟩).ok⟩
    · rw [show y = kV (Sum.inr z) from ry, ← map_put]
      exact DPut.k hob (by unfold mapKv; rw [List.length_map]; exact hl)
    · have r1 := t.mono g2.up r1
      unfold putM at mm
      split at mm
      · obtain ⟨m0, mm0, rfl⟩ := List.mem_map.mp mm
        by_cases q : m0.1 = z
        · rw [if_pos q]; exact r1
        · rw [if_neg q]; exact ht m0 mm0
      · rcases List.mem_append.mp mm with mm | mm
        · exact ht m mm
        · rw [List.mem_singleton.mp mm]; exact r1
/-- list(d.values()) -/
theorem ev_valsM (hL : cell p (cMap t ms) ∈ W.L) (hd : Ev W td tRf p) : Ev W (tListVals td) (tLs K t) (ms.map fun m => m.2.2) := fun σ H o Q k =>
  hd σ H o _ fun w H1 g1 r1 => by
    obtain rfl : w = .ref p := r1
    obtain ⟨o1, ho1, rfl, ht⟩ := g1.ok.at_ _ hL
    refine ⟨p, mapKv ms, rfl, ho1, fun l nl => k _ _ (g1.trans (g1.ok.new nl)) ⟨l, _, rfl, (by rw [hid_of (g1.ok.off nl)]; exact upd_same), All2.mono (fun _ _ => t.mono (g1.ok.new nl).up) ?_⟩⟩
    have e : (mapKv ms).map (·.2) = (ms.map fun m => m.2).map (·.1) := by unfold mapKv; rw [List.map_map, List.map_map]; rfl
    have e2 : (ms.map fun m => m.2.2) = (ms.map fun m => m.2).map (·.2) := by rw [List.map_map]; rfl
    rw [e, e2]
    exact all2_tags fun q mq => by
      obtain ⟨m, mm, rfl⟩ := List.mem_map.mp mq
      exact ht m mm
/-! ### for a, b in d.items() -/
/-- the dict while it is walked -/
def cFz {α : Type} (t : Ty α) (od : Obj) (ms : List (Tag α)) : CF := ⟨fun F o => o = .frz od (.dK (mapKv ms)) ∧ ∀ m ∈ ms, t.r F m.2.1 m.2.2, fun e ⟨h, g⟩ => ⟨h, fun m mm => t.mono e (g m mm)⟩⟩
theorem wks_items {p : Addr} {od : Obj} {ms : List (Tag α)} : WksR (Iti p od (mapKv ms)) (cell p (cFz t od ms)) (tPr K tSt t) (ms.map fun m => (m.1, m.2.2)) := ⟨fun i H x H' => ∃ T k v, (mapKv ms)[i]? = some (k, v) ∧ x = .ref T ∧ H T = none ∧ H' = upd H T (.tup [kV k, v]), by
    rw [List.length_map, ← List.length_map (f := fun m : Tag α => ((Sum.inr m.1 : Key), m.2.1))]
    refine ⟨fun i H hi ⟨S, o, ho, e, _⟩ => ⟨by rw [← e]; exact ho, hi⟩, fun H ⟨S, o, ho, e, _⟩ => ⟨by rw [← e]; exact ho, Nat.le_refl _⟩, fun i H x H' _ _ y => y⟩, by
    rintro i H v H' S hi ⟨o, ho, rfl, ht⟩ al ⟨T, k, w, h1, rfl, nT, rfl⟩
    unfold mapKv at h1
    rw [List.getElem?_map] at h1
    rw [List.getElem?_map]
    cases c : ms[i]? with
    | none => rw [c] at h1; cases h1
    | some m =>
      rw [c] at h1
      obtain ⟨rfl, rfl⟩ := Prod.mk.inj (Option.some.inj h1)
      have off : T ∉ S := fun z => al T z nT
      have up : Same (hid S H) (hid S (upd H T (.tup [kV (Sum.inr m.1), m.2.1]))) := hid_same (Same.new nT)
      exact ⟨Same.new nT, _, rfl, T, V.str m.1, m.2.1, rfl, SqT.of (by rw [hid_of off]; exact upd_same), rfl, t.mono up (ht m (List.mem_of_getElem? c))⟩⟩
theorem for_coreR {ι : Type} {xs : List α} {J : It} {r : RS} {g : TG} {as : α → List (Nat × SF)} {σ : L2.St} {H1 : Hp} (wk : WksR J r t xs) (tg : Tgt g t as) (JJ : Nat → ι → Wd) (Pv : Nat → ι → Prop) (hr : ∀ k c, r ∈ (JJ k c).L)
    (start : ∃ c, Pv 0 c ∧ Ok (JJ 0 c) σ H1)
    (hs : ∀ k c x, xs[k]? = some x → Pv k c → Go ((JJ k c).puts (as x)) ts { D with nx := fun σ H => ∃ c', Pv (k + 1) c' ∧ Ok (JJ (k + 1) c') σ H, ct := fun σ H => ∃ c', Pv (k + 1) c' ∧ Ok (JJ (k + 1) c') σ H, bk := D.nx })
    (hd : ∀ c, Pv xs.length c → ∀ σ H, Ok (JJ xs.length c) σ H → D.nx σ H) :
    ∃ Wm : Nat → Nat → L2.St → Hp → Prop, (∃ m, Wm 0 m σ H1) ∧ ∀ i m σ H, Wm i m σ H →
      (J.stop i H ∧ D.nx σ H) ∨ (J.go i H ∧ ∃ N : L2.St → Hp → Prop, (∀ σ' H', N σ' H' → ∃ m', m' < m ∧ Wm (i + 1) m' σ' H') ∧ ∀ x H', J.yld i H x H' → g x σ H' fun σ2 H2 => ts { D with nx := N, ct := N, bk := D.nx } σ2 H2) := by
  obtain ⟨Y, wY, hY⟩ := wk.ex
  have ff : ∀ k c σ H, Ok (JJ k c) σ H → r.p (hid (JJ k c).S H) H := fun k c σ H o => o.at_ r (hr k c)
  refine for_it wY (fun k σ H => ∃ c, Pv k c ∧ Ok (JJ k c) σ H) start (fun k σ H _ ⟨c, _, o⟩ => ⟨_, ff k c σ H o⟩) ?_ ?_
  · rintro k v σ H H' hk ⟨c, pc, o⟩ y
    obtain ⟨e, x, hx, rx⟩ := hY k H v H' _ hk (ff k c σ H o) o.al y
    exact tg _ σ H' v x (o.same e) rx _ fun σ' o' _ => hs k c x hx pc σ' H' o'
  · rintro σ H ⟨c, pc, o⟩
    exact hd c pc σ H o
theorem go_itemsM {ι : Type} {s i j : Nat} {p : Addr} {ms : List (Tag α)} {R : List RS} (hs : W.G[s]? = some (some (tRf.is p))) (hL : W.L.Perm (cell p (cMap t ms) :: R)) (J : Nat → ι → List RS × List (Option SF)) (Pv : Nat → ι → Prop) (c0 : ι) (p0 : Pv 0 c0)
    (w0 : ∀ od, Wk { W with L := cell p (cFz t od ms) :: R } { W with L := cell p (cFz t od ms) :: (J 0 c0).1, G := (J 0 c0).2 })
    (hb : ∀ od k c m (B : L2.St → Hp → Prop) (V' : VK), ms[k]? = some m → Pv k c → Go (Wd.puts ⟨W.H0, W.M, W.S, cell p (cFz t od ms) :: (J k c).1, W.F, (J k c).2⟩ [(i, tSt.is m.1), (j, t.is m.2.2)]) ts
      ⟨fun σ H => ∃ c', Pv (k + 1) c' ∧ Ok ⟨W.H0, W.M, W.S, cell p (cFz t od ms) :: (J (k + 1) c').1, W.F, (J (k + 1) c').2⟩ σ H, V', B, fun σ H => ∃ c', Pv (k + 1) c' ∧ Ok ⟨W.H0, W.M, W.S, cell p (cFz t od ms) :: (J (k + 1) c').1, W.F, (J (k + 1) c').2⟩ σ H⟩)
    (hd : ∀ c, Pv ms.length c → ∀ σ H, Ok ⟨W.H0, W.M, W.S, cell p (cMap t ms) :: (J ms.length c).1, W.F, (J ms.length c).2⟩ σ H → D.nx σ H) :
    Go W (tLock (tFor (iItems (tVar s)) (gTup K 2 (gCons (gName i) (gCons (gName j) gNil))) ts)) D := fun σ H o => by
  obtain ⟨w, h1, rfl⟩ := o.slots s _ hs
  obtain ⟨ob, hob, rfl, ht⟩ := o.at_ (cell p (cMap t ms)) (hL.mem_iff.mpr (List.mem_cons_self ..))
  refine ⟨p, .dK (mapKv ms), hob, trivial, fun od => ?_⟩
  have o1 := ((o.perm hL).write (ψ := cFz t od ms) (o := .frz od (.dK (mapKv ms))) rfl ⟨rfl, ht⟩).ok
  have o2 := w0 od _ _ o1
  refine ⟨.ref p, h1, p, od, mapKv ms, rfl, upd_same, ?_⟩
  refine for_coreR (wks_items (t := t)) tgt_pair (fun k c => ⟨W.H0, W.M, W.S, cell p (cFz t od ms) :: (J k c).1, W.F, (J k c).2⟩) Pv (fun _ _ => List.mem_cons_self ..) ⟨c0, p0, o2⟩ (fun k c x hx pc => ?_) (fun c pc σ' H' o' => ?_)
  · rw [List.getElem?_map] at hx
    cases q : ms[k]? with
    | none => rw [q] at hx; cases hx
    | some m =>
      rw [q] at hx
      obtain rfl : (m.1, m.2.2) = x := Option.some.inj hx
      exact hb od k c m _ _ q pc
  · rw [List.length_map] at pc o'
    obtain ⟨ob', hob', rfl, ht'⟩ := o'.at_ (cell p (cFz t od ms)) (List.mem_cons_self ..)
    exact ⟨hob', hd c pc _ _ (o'.write (ψ := cMap t ms) (o := .dK (mapKv ms)) rfl ⟨rfl, ht'⟩).ok⟩
/-! ### a list of the thing grows -/
theorem go_appR {to te : TE} {r : RS} {r' : V → RS} {q : Addr} {R : List RS} {vxs : List (V × α)} {nx : L2.St → Hp → Prop} (hL : W.L.Perm (r :: R)) (ho : Ev W to tRf q) (hs : SaysR r q t vxs) (ha : Ev W te t x) (hl : vxs.length < sizeLine) (fp : ∀ v, (r' v).fp = r.fp) (hq : q ∈ r.fp)
    (up : ∀ v F H, r.fp.Nodup → r.p F H → t.r F v x → (r' v).p F (upd H q (.lst (vxs.map (·.1) ++ [v])))) (hD : D.nx = nx) (k : ∀ v σ H, Ok { W with L := r' v :: R } σ H → nx σ H) : Go W (tDrop (tBM K "list" rAppend to (tCons te tNil))) D := fun σ H o => ho σ H o _ fun w H1 g1 r1 => by
  obtain rfl : w = .ref q := r1
  have mem : r ∈ W.L := hL.mem_iff.mpr (List.mem_cons_self ..)
  refine ⟨.inl ⟨rfl, _, SqL.of (hs _ _ (g1.ok.at_ r mem)).1⟩, ha σ H1 g1.ok _ fun v H2 g2 r2 => ?_⟩
  have rd := g2.ok.at_ r mem
  refine ⟨q, _, v, rfl, rfl, (hs _ _ rd).1, by rw [List.length_map]; exact hl, ?_⟩
  have o2 := g2.ok.perm hL
  have fc : fps [r] = r.fp := List.append_nil _
  have fc' : fps [r' v] = r.fp := by rw [← fp v]; exact List.append_nil _
  have qS : q ∈ W.S := (g2.ok.own q (mem_fps mem hq)).1
  have eh : hid W.S (upd H2 q (.lst (vxs.map (·.1) ++ [v]))) = hid W.S H2 := hid_upd qS
  have o3 := (o2.change1 (C := [r]) (C' := [r' v]) (R := R) (N := []) (H' := upd H2 q (.lst (vxs.map (·.1) ++ [v]))) rfl (fun b ob nb hb => ?_) (fun a m => nomatch m) ?_ (fun a m => .inl (by rw [fc]; rw [fc'] at m; exact m)) (fun a m => ?_) (fun r0 m => ?_)).1
  · show D.nx σ _
    rw [hD]
    exact k v σ _ o3
  · rw [upd_ne (fun e => nb (by rw [e, fc]; exact hq))]
    exact hb
  · rw [fc', ← fc]
    exact (nodup_app.mp (show (fps ([r] ++ R)).Nodup from o2.nod)).1
  · by_cases e : a = q
    · rw [e, upd_same]; simp
    · rw [upd_ne e]
      rw [fc] at m
      exact g2.ok.al a (g2.ok.own a (mem_fps mem m)).1
  · rw [List.mem_singleton.mp m]
    show (r' v).p (hid W.S (upd H2 q (.lst (vxs.map (·.1) ++ [v])))) (upd H2 q (.lst (vxs.map (·.1) ++ [v])))
    rw [eh]
    exact up v _ _ (by rw [← fc]; exact (nodup_app.mp (show (fps ([r] ++ R)).Nodup from o2.nod)).1) rd r2
end
end Cs
set_option maxHeartbeats 4000000
namespace Cs
open PySem PySem.Spec PyProof.Rows L2
section
variable {α β γ δ : Type} {W : Wd} {K : PySem.W.Frag} {ta tb tc td ty tx : TE} {t : Ty α} {u : Ty β} {x x' : α} {y : β} {tt uu : TT} {ar ak : TA} {fs : List SF} {i : Nat} {E : XK} {ts us vs : TS} {D : Ends} {g : TG} {as : α → List (Nat × SF)} {wi : TI} {xs : List α}
/-- xs[:n], n drawn -/
theorem evx_take {P : Int → Prop} (h : Ev W ta (tLs K t) xs) (hb : Evx W tb tInt P) (h0 : ∀ n, P n → 0 ≤ n) : Evx W (tSl (rSlL K) ta tNoPart (tPart tb)) (tLs K t) (fun ys => ∃ n, P n ∧ ys = xs.take n.toNat) := fun σ H o Q q =>
  h σ H o _ fun v H1 g1 r1 => hb σ H1 g1.ok _ fun v2 n H2 pn g2 r2 => by
    obtain ⟨p, vs, rfl, s, al⟩ := (tLs K t).mono g2.up r1
    refine ⟨n, r2, p, vs, rfl, SqL.of (hid_sub _ _ s), fun l nl => q _ (xs.take n.toNat) _ ⟨n, pn, rfl⟩ ((g1.trans g2).trans (g2.ok.new nl)) ⟨l, vs.take n.toNat, rfl, ?_, All2.mono (fun _ _ => t.mono (g2.ok.new nl).up) (al.take _)⟩⟩
    rw [hid_of (g2.ok.off nl), upd_same]
    have e : cutV vs none (some n) = vs.take n.toNat := by
      have := h0 n pn
      unfold cutV HT.sIx
      simp only [List.drop_zero, Nat.sub_zero]
      rw [if_neg (by omega)]
      rcases Nat.le_total n.toNat vs.length with z | z
      · rw [Nat.min_eq_left z]
      · rw [Nat.min_eq_right z, List.take_length, List.take_of_length_le z]
    rw [e]
/-- a for whose things come with new addresses -/
theorem go_forS {ι : Type} (h : Iv W wi t xs) (tg : Tgt g t as) (J : Nat → ι → List Addr × List RS × List (Option SF)) (Pv : Nat → ι → Prop) (c0 : ι) (p0 : Pv 0 c0) (s0 : (J 0 c0).1 = W.S) (w0 : Wk W { W with L := (J 0 c0).2.1, G := (J 0 c0).2.2 })
    (hs : ∀ k c x (f : FF), xs[k]? = some x → Pv k c → Go (Wd.puts ⟨W.H0, W.M, (J k c).1, (J k c).2.1, f :: W.F, (J k c).2.2⟩ (as x)) ts
      { D with nx := fun σ H => ∃ c', Pv (k + 1) c' ∧ Ok ⟨W.H0, W.M, (J (k + 1) c').1, (J (k + 1) c').2.1, f :: W.F, (J (k + 1) c').2.2⟩ σ H, ct := fun σ H => ∃ c', Pv (k + 1) c' ∧ Ok ⟨W.H0, W.M, (J (k + 1) c').1, (J (k + 1) c').2.1, f :: W.F, (J (k + 1) c').2.2⟩ σ H, bk := D.nx })
    (hd : ∀ c, Pv xs.length c → ∀ σ H, Ok ⟨W.H0, W.M, (J xs.length c).1, (J xs.length c).2.1, W.F, (J xs.length c).2.2⟩ σ H → D.nx σ H) :
    Go W (tFor wi g ts) D := fun σ H o => h σ H o _ fun Ji H1 f g1 fp wk =>
  for_core wk tg (fun k c => ⟨W.H0, W.M, (J k c).1, (J k c).2.1, f :: W.F, (J k c).2.2⟩) Pv (fun _ _ => rfl) ⟨c0, p0, by rw [s0]; exact Ok.know (w0 _ _ g1.ok) fp⟩ (fun k c x hx pc => hs k c x f hx pc) fun c pc σ' H' o' => hd c pc σ' H'
    ⟨o'.nod, o'.own, o'.at_, o'.ms, o'.al, o'.bt, o'.len, fun q m => o'.facts q (List.mem_cons_of_mem _ m), o'.slots⟩
/-- the empty list is of every kind -/
theorem nil_to {H : Hp} {v : V} (h : (tLs K t).r H v []) : (tLs K u).r H v [] := by
  obtain ⟨p, vs, e, s, al⟩ := h
  cases vs with
  | nil => exact ⟨p, [], e, s, trivial⟩
  | cons _ _ => exact al.elim
theorem ev_nilTo (h : Ev W ta (tLs K t) []) : Ev W ta (tLs K u) [] := ev_to h fun _ _ r => nil_to r
/-- a thing is no longer looked at -/
theorem ok_less {H0 : Hp} {M S : List Addr} {r : RS} {R : List RS} {F : List FF} {G : List (Option SF)} {σ : L2.St} {H : Hp} (o : Ok ⟨H0, M, S, r :: R, F, G⟩ σ H) : Ok ⟨H0, M, S, R, F, G⟩ σ H :=
  ⟨(nodup_app.mp (show (fps ([r] ++ R)).Nodup from o.nod)).2.1, fun a m => o.own a (by obtain ⟨q, m1, m2⟩ := of_fps m; exact mem_fps (List.mem_cons_of_mem _ m1) m2), fun q m => o.at_ q (List.mem_cons_of_mem _ m), o.ms, o.al, o.bt, o.len, o.facts, o.slots⟩
def cAny : CF := ⟨fun _ _ => True, fun _ h => h⟩
/-- o.m().append(e): the list was given as a thing of its own; behind it nobody looks at it -/
theorem go_appG {to te : TE} {P : Addr → Wd → Prop} {nx : L2.St → Hp → Prop} (h : Evm W to tRf P) (hD : D.nx = nx) (k : ∀ q W', P q W' → ∃ (δ : Type) (tt : Ty δ) (ys : List δ) (R : List RS), W'.L.Perm (cell q (cLs tt ys) :: R) ∧ ys.length < sizeLine ∧ Ev W' te t x ∧ ∀ σ H, Ok { W' with L := R } σ H → nx σ H) : Go W (tDrop (tBM K "list" rAppend to (tCons te tNil))) D := fun σ H o => h σ H o _ fun v q W' H1 p o1 r1 => by
  obtain rfl : v = .ref q := r1
  obtain ⟨δ, tt, ys, R, hL, hl, he, hk⟩ := k q W' p
  have mem : cell q (cLs tt ys) ∈ W'.L := hL.mem_iff.mpr (List.mem_cons_self ..)
  obtain ⟨ob, hob, vs, rfl, _⟩ := o1.at_ _ mem
  refine ⟨.inl ⟨rfl, vs, SqL.of hob⟩, he σ H1 o1 _ fun w H2 g2 r2 => ?_⟩
  obtain ⟨ob, hob, ws, rfl, al⟩ := g2.ok.at_ _ mem
  refine ⟨q, ws, w, rfl, rfl, hob, by rw [al.length]; exact hl, ?_⟩
  rw [hD]
  exact hk _ _ (ok_less ((g2.ok.perm hL).write (ψ := cAny) (o := .lst (ws ++ [w])) rfl trivial).ok)
theorem go_forSx {ι : Type} {X : List α → Prop} (h : Ivx W wi t X) (tg : Tgt g t as) (J : Nat → ι → List Addr × List RS × List (Option SF)) (Pv : Nat → ι → Prop) (c0 : ι) (p0 : Pv 0 c0) (s0 : (J 0 c0).1 = W.S) (w0 : Wk W { W with L := (J 0 c0).2.1, G := (J 0 c0).2.2 })
    (hs : ∀ xs k c x (f : FF), X xs → xs[k]? = some x → Pv k c → Go (Wd.puts ⟨W.H0, W.M, (J k c).1, (J k c).2.1, f :: W.F, (J k c).2.2⟩ (as x)) ts
      { D with nx := fun σ H => ∃ c', Pv (k + 1) c' ∧ Ok ⟨W.H0, W.M, (J (k + 1) c').1, (J (k + 1) c').2.1, f :: W.F, (J (k + 1) c').2.2⟩ σ H, ct := fun σ H => ∃ c', Pv (k + 1) c' ∧ Ok ⟨W.H0, W.M, (J (k + 1) c').1, (J (k + 1) c').2.1, f :: W.F, (J (k + 1) c').2.2⟩ σ H, bk := D.nx })
    (hd : ∀ xs c, X xs → Pv xs.length c → ∀ σ H, Ok ⟨W.H0, W.M, (J xs.length c).1, (J xs.length c).2.1, W.F, (J xs.length c).2.2⟩ σ H → D.nx σ H) :
    Go W (tFor wi g ts) D := fun σ H o => h σ H o _ fun xs Ji H1 f px g1 fp wk =>
  for_core wk tg (fun k c => ⟨W.H0, W.M, (J k c).1, (J k c).2.1, f :: W.F, (J k c).2.2⟩) Pv (fun _ _ => rfl) ⟨c0, p0, by rw [s0]; exact Ok.know (w0 _ _ g1.ok) fp⟩ (fun k c x hx pc => hs xs k c x f px hx pc) fun c pc σ' H' o' => hd xs c px pc σ' H'
    ⟨o'.nod, o'.own, o'.at_, o'.ms, o'.al, o'.bt, o'.len, fun q m => o'.facts q (List.mem_cons_of_mem _ m), o'.slots⟩
end
/-! ### places in short lists -/
theorem in0 {α : Type} {a : α} {l : List α} : a ∈ a :: l := List.mem_cons_self ..
theorem in1 {α : Type} {a b : α} {l : List α} : a ∈ b :: a :: l := List.mem_cons_of_mem _ in0
theorem in2 {α : Type} {a b c : α} {l : List α} : a ∈ b :: c :: a :: l := List.mem_cons_of_mem _ in1
theorem in3 {α : Type} {a b c d : α} {l : List α} : a ∈ b :: c :: d :: a :: l := List.mem_cons_of_mem _ in2
theorem in4 {α : Type} {a b c d e : α} {l : List α} : a ∈ b :: c :: d :: e :: a :: l := List.mem_cons_of_mem _ in3
theorem in5 {α : Type} {a b c d e f : α} {l : List α} : a ∈ b :: c :: d :: e :: f :: a :: l := List.mem_cons_of_mem _ in4
theorem su0 {α : Type} {a : α} {l : List α} : [a].Sublist (a :: l) := List.singleton_sublist.mpr in0
theorem su1 {α : Type} {a b : α} {l : List α} : [a].Sublist (b :: a :: l) := List.singleton_sublist.mpr in1
theorem su2 {α : Type} {a b c : α} {l : List α} : [a].Sublist (b :: c :: a :: l) := List.singleton_sublist.mpr in2
theorem su3 {α : Type} {a b c d : α} {l : List α} : [a].Sublist (b :: c :: d :: a :: l) := List.singleton_sublist.mpr in3
end Cs
set_option maxHeartbeats 4000000
namespace Cs
open PySem PySem.Spec PyProof.Rows L2
/-! ### calls that raise -/
def CalX (P : Program) (w : World) (K : PySem.W.Frag) (mg : Str → Option Value) (base : Heap) (k : Nat) (x : Str) (ps : List Str) (sp : Sp) : Prop :=
  ∃ (f : Addr) (fd : FuncData), FnOk P w K mg base (L2.CX P w) k f fd ps sp ∧ mg x = some (.ref f) ∧ PySem.W.keepIn K (.ref f) = true ∧ Binds K fd ps []
section
variable {P : Program} {w : World} {K : PySem.W.Frag} {mg : Str → Option Value} {base : Heap} {k j : Nat} {x : Str} {ps : List Str} {sp : Sp} {st : Stmt}
theorem CalX.of (F : FunG K mg x st ps) (h : ∀ {f : Addr} {fd : FuncData}, Fun K x x st f fd → FnOk P w K mg base (L2.CX P w) k f fd ps sp) : CalX P w K mg base k x ps sp := by
  obtain ⟨f, fd, F, g, b⟩ := F
  exact ⟨f, fd, h F, g, F.kp, b⟩
theorem CalX.mono (c : CalX P w K mg base j x ps sp) (h : j ≤ k) : CalX P w K mg base k x ps sp := by
  obtain ⟨f, fd, F, g⟩ := c
  exact ⟨f, fd, F.mono h, g⟩
end
section
variable {X : Cx} {k : Nat} {x : Str} {ps : List Str} {sp : Sp} {p pos : Pos} {e : Expr} {es : List Expr} {t : TA}
theorem pe_calX {E : XK} (c : CalX X.prog X.w X.K X.mg X.base k x ps sp) (hr : Room k X.A) (hg : Gl X x) (hx : Passes (L2.CX X.prog X.w) X E) (ha : PA X (e :: es) t) (hdb : (x == ("__debug__" : Str)) = false := by decide)
    (he : starEach (e :: es) X.env = (false, eval e X.env) :: starEach es X.env := by rfl) (hpl : (backTo pos (starEach es X.env)).any (·.1) = false := by rfl) :
    PE X (.Call (.Name x p) (e :: es) [] pos) (tCall sp [] E t) := by
  obtain ⟨f, fd, F, g, kp, b⟩ := c
  exact pe_call F hr hg g kp b .nil hx ha hdb he hpl
theorem pe_calS {E : L2.St → XK} (c : CalX X.prog X.w X.K X.mg X.base k x ps sp) (hr : Room k X.A) (hg : Gl X x) (hx : ∀ σ, PassesAt (L2.CX X.prog X.w) X σ (E σ)) (ha : PA X (e :: es) t) (hdb : (x == ("__debug__" : Str)) = false := by decide)
    (he : starEach (e :: es) X.env = (false, eval e X.env) :: starEach es X.env := by rfl) (hpl : (backTo pos (starEach es X.env)).any (·.1) = false := by rfl) :
    PE X (.Call (.Name x p) (e :: es) [] pos) (tCallS sp E t) := by
  obtain ⟨f, fd, F, g, kp, b⟩ := c
  exact pe_callS F hr hg g kp b hx ha hdb he hpl
end
section
variable {X : Cx} {k : Nat} {x : Str} {ps : List Str} {sp : Sp} {p pos : Pos}
theorem pe_cal0 (c : Cal X.prog X.w X.K X.mg X.base k x ps sp) (hr : Room k X.A) (hg : Gl X x) (hdb : (x == ("__debug__" : Str)) = false := by decide) : PE X (.Call (.Name x p) [] [] pos) (tCall sp [] E0 tNil) := by
  obtain ⟨f, fd, F, g, kp, b⟩ := c
  exact pe_call0 F hr hg g kp b .nil pass0 hdb
end
/-! ### lists as cells, each item with its value -/
def cTg {α : Type} (t : Ty α) (vxs : List (V × α)) : CF := ⟨fun F o => o = .lst (vxs.map (·.1)) ∧ ∀ p ∈ vxs, t.r F p.1 p.2, fun e ⟨h, g⟩ => ⟨h, fun p m => t.mono e (g p m)⟩⟩
section
variable {α β γ δ : Type} {W : Wd} {K : PySem.W.Frag} {ta tb tc td ty tx : TE} {t : Ty α} {u : Ty β} {x x' : α} {y : β} {tt uu : TT} {ar ak : TA} {fs : List SF} {i : Nat} {E : XK} {ts us vs : TS} {D : Ends} {g : TG} {as : α → List (Nat × SF)} {wi : TI} {xs : List α} {vxs : List (V × α)} {p : Addr}
theorem tg_says : SaysR (cell p (cTg t vxs)) p t vxs := fun F H ⟨o, h, e, g⟩ => ⟨by rw [h, e], g⟩
/-- xs = [], a list that grows -/
theorem go_newT (t : Ty α) (k : ∀ p, p ∉ W.S → Go ⟨W.H0, W.M, p :: W.S, cell p (cTg t []) :: W.L, W.F, W.G.set i (some (tRf.is p))⟩ us D) : Go W (tSeq (tAsg (tLst tNil) (gName i)) us) D := fun σ H o =>
  ⟨Nat.zero_le _, fun p np => k p (o.off np) _ _ (Ok.put (i := i) (f := tRf.is p) (o.cell (ψ := cTg t []) np ⟨rfl, fun p m => nomatch m⟩).1 rfl)⟩
/-- p.append(e) -/
theorem go_app1T {R : List RS} {nx : L2.St → Hp → Prop} (hL : W.L.Perm (cell p (cTg t vxs) :: R)) (ho : Ev W ta tRf p) (ha : Ev W tb t x) (hl : vxs.length < sizeLine) (hD : D.nx = nx) (k : ∀ v σ H, Ok { W with L := cell p (cTg t (vxs ++ [(v, x)])) :: R } σ H → nx σ H) :
    Go W (tDrop (tBM K "list" rAppend ta (tCons tb tNil))) D :=
  go_appR (r := cell p (cTg t vxs)) (r' := fun v => cell p (cTg t (vxs ++ [(v, x)]))) (q := p) hL ho tg_says ha hl (fun v => rfl) (List.mem_cons_self ..) (fun v F H _ ⟨o, h, e, g⟩ hv => ⟨_, upd_same, by rw [List.map_append]; rfl, fun q m => by
    rcases List.mem_append.mp m with m | m
    · exact g q m
    · rw [List.mem_singleton.mp m]; exact hv⟩) hD k
theorem go_appT {R : List RS} (hL : W.L.Perm (cell p (cTg t vxs) :: R)) (ho : Ev W ta tRf p) (ha : Ev W tb t x) (hl : vxs.length < sizeLine) (k : ∀ v, Go { W with L := cell p (cTg t (vxs ++ [(v, x)])) :: R } us D) :
    Go W (tSeq (tDrop (tBM K "list" rAppend ta (tCons tb tNil))) us) D := go_seq (go_app1T hL ho ha hl rfl fun v σ H o => k v σ H o)
/-- a for over a list of a thing -/
theorem go_forR {ι : Type} {r : RS} (h : IvR W wi r t xs) (tg : Tgt g t as) (J : Nat → ι → List Addr × List RS × List (Option SF)) (hJ : ∀ k c, r ∈ (J k c).2.1) (Pv : Nat → ι → Prop) (c0 : ι) (p0 : Pv 0 c0) (s0 : (J 0 c0).1 = W.S) (w0 : Wk W { W with L := (J 0 c0).2.1, G := (J 0 c0).2.2 })
    (hs : ∀ k c x, xs[k]? = some x → Pv k c → Go (Wd.puts ⟨W.H0, W.M, (J k c).1, (J k c).2.1, W.F, (J k c).2.2⟩ (as x)) ts
      { D with nx := fun σ H => ∃ c', Pv (k + 1) c' ∧ Ok ⟨W.H0, W.M, (J (k + 1) c').1, (J (k + 1) c').2.1, W.F, (J (k + 1) c').2.2⟩ σ H, ct := fun σ H => ∃ c', Pv (k + 1) c' ∧ Ok ⟨W.H0, W.M, (J (k + 1) c').1, (J (k + 1) c').2.1, W.F, (J (k + 1) c').2.2⟩ σ H, bk := D.nx })
    (hd : ∀ c, Pv xs.length c → ∀ σ H, Ok ⟨W.H0, W.M, (J xs.length c).1, (J xs.length c).2.1, W.F, (J xs.length c).2.2⟩ σ H → D.nx σ H) :
    Go W (tFor wi g ts) D := fun σ H o => h σ H o _ fun Ji H1 g1 wk =>
  for_coreR wk tg (fun k c => ⟨W.H0, W.M, (J k c).1, (J k c).2.1, W.F, (J k c).2.2⟩) Pv hJ ⟨c0, p0, by rw [s0]; exact w0 _ _ g1.ok⟩ hs hd
/-! ### promises of several kinds -/
theorem FnOk.or {P : Program} {w : World} {mg : Str → Option Value} {base : Heap} {CX : CXT} {k : Nat} {f : Addr} {fd : FuncData} {ps : List Str} {sp sp' : Sp} (F : FnOk P w K mg base CX k f fd ps sp) (G : FnOk P w K mg base CX k f fd ps sp') : FnOk P w K mg base CX k f fd ps (fun vs H Q E => sp vs H Q E ∨ sp' vs H Q E) :=
  ⟨fun vs H Q E h => h.elim (F.len vs H Q E) (G.len vs H Q E), fun A outer s H args us vs Q E hr he hb hv hs => hs.elim (F.run A outer s H args us vs Q E hr he hb hv) (G.run A outer s H args us vs Q E hr he hb hv)⟩
/-- what is promised without errors is promised among errors too -/
theorem FnOk.toX {P : Program} {w : World} {mg : Str → Option Value} {base : Heap} {k : Nat} {f : Addr} {fd : FuncData} {ps : List Str} {sp : Sp} (F : FnOk P w K mg base CX0 k f fd ps sp) : FnOk P w K mg base (L2.CX P w) k f fd ps sp :=
  ⟨F.len, fun A outer s H args us vs Q E hr he hb hv hs => codeAny_mono (F.run A outer s H args us vs Q E hr he hb hv hs) fun r s' h => by
    cases r with
    | error e => exact h.elim
    | ok fl => cases fl <;> exact h⟩
theorem evx_methXI {r : RS} {b Cl : Addr} {m : Str} {sp : Sp} {C : γ → List RS} {A : γ → List SF} {w : Ty β} {pre : γ → Prop} {post : γ → β → Prop} {z : γ} {gs : List SF} {EE : L2.St → XK} (imp : ∀ vs H Q E, spN C A w pre post vs H Q E → sp vs H Q E) (hi : IsOb r b Cl m) (hr : r ∈ W.L) (ho : Ev W ta tRf b) (h : Ea W ar gs) (hA : A z = tRf.is b :: gs) (hp : pre z)
    (hC : (C z).Sublist W.L := by first | exact List.nil_sublist _ | exact List.Sublist.refl _ | exact List.singleton_sublist.mpr (by simp) | simp) : Evx W (tMethX Cl m sp EE ta ar) w (post z) := fun σ H o Q q => ho σ H o _ fun v0 H0 g0 r0 => by
  obtain rfl : v0 = .ref b := r0
  obtain ⟨dx, fs, h1, h2⟩ := hi _ _ (g0.ok.at_ r hr)
  refine ⟨b, dx, fs, rfl, h1, h2, h σ H0 g0.ok _ fun vs H1 g1 r1 => imp _ _ _ _ ?_⟩
  have sub : ∀ a, a ∈ fps (C z) → a ∈ W.S := fun a m => by
    obtain ⟨r, m1, m2⟩ := of_fps m
    exact (g1.ok.own a (mem_fps (hC.subset m1) m2)).1
  refine ⟨W.S, z, g1.ok.al, (fps_sub hC).nodup g1.ok.nod, sub, fun r m => g1.ok.at_ r (hC.subset m), by rw [hA]; exact ⟨rfl, r1⟩, hp, fun v y H2 py bt al c rr => ?_⟩
  exact q v y H2 py ((g0.trans g1).trans (g1.ok.after (fun r m => hC.subset m) bt al c)) rr
theorem evm_methXI {r : RS} {b Cl : Addr} {m : Str} {sp : Sp} {C : γ → List RS} {A : γ → List SF} {w : Ty β} {pre : γ → Prop} {post : γ → β → List RS → Prop} {z : γ} {R : List RS} {gs : List SF} {EE : L2.St → XK} (imp : ∀ vs H Q E, spS C A w pre post vs H Q E → sp vs H Q E) (hi : IsOb r b Cl m) (hr : r ∈ W.L) (ho : Ev W ta tRf b) (h : Ea W ar gs) (hA : A z = tRf.is b :: gs) (hp : pre z) (hL : W.L.Perm (C z ++ R)) :
    Evm W (tMethX Cl m sp EE ta ar) w (fun y => Aft W R (post z y)) := fun σ H o Q q => ho σ H o _ fun v0 H0 g0 r0 => by
  obtain rfl : v0 = .ref b := r0
  obtain ⟨dx, fs, h1, h2⟩ := hi _ _ (g0.ok.at_ r hr)
  refine ⟨b, dx, fs, rfl, h1, h2, h σ H0 g0.ok _ fun vs H1 g1 r1 => imp _ _ _ _ ?_⟩
  have o1 := g1.ok.perm hL
  refine ⟨W.S, z, g1.ok.al, (nodup_app.mp o1.nod).1, fun a m => ?_, fun r m => o1.at_ r (List.mem_append_left _ m), by rw [hA]; exact ⟨rfl, r1⟩, hp, fun v y N C' H2 py b hN nd hC' al rs r => ?_⟩
  · obtain ⟨r, m1, m2⟩ := of_fps m
    exact (o1.own a (mem_fps (List.mem_append_left _ m1) m2)).1
  · exact q v y _ H2 ⟨N, C', py, rfl⟩ (aft_of g1.ok hL b hN nd hC' al rs) r
theorem evx_methEI {r : RS} {b Cl CE : Addr} {m : Str} {sp : Sp} {C : γ → List RS} {A : γ → List SF} {w : Ty β} {pre : γ → Prop} {flds : γ → List (Str × SF)} {z : γ} {gs : List SF} {EE : L2.St → XK} (imp : ∀ vs H Q E, spE C A pre CE flds vs H Q E → sp vs H Q E) (hi : IsOb r b Cl m) (hr : r ∈ W.L) (ho : Ev W ta tRf b) (h : Ea W ar gs) (hA : A z = tRf.is b :: gs) (hp : pre z) (fl : ∀ σ, Flies W σ CE (flds z) (EE σ))
    (hC : (C z).Sublist W.L := by first | exact List.nil_sublist _ | exact List.Sublist.refl _ | exact List.singleton_sublist.mpr (by simp) | simp) : Evx W (tMethX Cl m sp EE ta ar) w (fun _ => False) := fun σ H o Q q => ho σ H o _ fun v0 H0 g0 r0 => by
  obtain rfl : v0 = .ref b := r0
  obtain ⟨dx, fs, h1, h2⟩ := hi _ _ (g0.ok.at_ r hr)
  refine ⟨b, dx, fs, rfl, h1, h2, h σ H0 g0.ok _ fun vs H1 g1 r1 => imp _ _ _ _ ?_⟩
  have sub : ∀ a, a ∈ fps (C z) → a ∈ W.S := fun a m => by
    obtain ⟨r, m1, m2⟩ := of_fps m
    exact (g1.ok.own a (mem_fps (hC.subset m1) m2)).1
  refine ⟨W.S, z, g1.ok.al, (fps_sub hC).nodup g1.ok.nod, sub, fun r m => g1.ok.at_ r (hC.subset m), by rw [hA]; exact ⟨rfl, r1⟩, hp, fun d xs H2 bt al c hd hf => ?_⟩
  exact fl σ d xs H2 (g1.ok.after (fun r m => hC.subset m) bt al c).ok hd hf
/-- calls of defs, by the slots -/
theorem evx_callXI {sp : Sp} {C : γ → List RS} {A : γ → List SF} {w : Ty β} {pre : γ → Prop} {post : γ → β → Prop} {z : γ} {EE : L2.St → XK} (imp : ∀ vs H Q E, spN C A w pre post vs H Q E → sp vs H Q E) (h : Ea W ar (A z)) (hp : pre z)
    (hC : (C z).Sublist W.L := by first | exact List.nil_sublist _ | exact List.Sublist.refl _ | exact List.singleton_sublist.mpr (by simp) | simp) : Evx W (tCallS sp EE ar) w (post z) := fun σ H o Q q => h σ H o _ fun vs H1 g1 r1 => imp _ _ _ _ (by
  have sub : ∀ a, a ∈ fps (C z) → a ∈ W.S := fun a m => by
    obtain ⟨r, m1, m2⟩ := of_fps m
    exact (g1.ok.own a (mem_fps (hC.subset m1) m2)).1
  refine ⟨W.S, z, g1.ok.al, (fps_sub hC).nodup g1.ok.nod, sub, fun r m => g1.ok.at_ r (hC.subset m), r1, hp, fun v y H2 py bt al c rr => ?_⟩
  exact q v y H2 py (g1.trans (g1.ok.after (fun r m => hC.subset m) bt al c)) rr)
theorem evx_callEI {sp : Sp} {CE : Addr} {C : γ → List RS} {A : γ → List SF} {w : Ty β} {pre : γ → Prop} {flds : γ → List (Str × SF)} {z : γ} {EE : L2.St → XK} (imp : ∀ vs H Q E, spE C A pre CE flds vs H Q E → sp vs H Q E) (h : Ea W ar (A z)) (hp : pre z) (fl : ∀ σ, Flies W σ CE (flds z) (EE σ))
    (hC : (C z).Sublist W.L := by first | exact List.nil_sublist _ | exact List.Sublist.refl _ | exact List.singleton_sublist.mpr (by simp) | simp) : Evx W (tCallS sp EE ar) w (fun _ => False) := fun σ H o Q q => h σ H o _ fun vs H1 g1 r1 => imp _ _ _ _ (by
  have sub : ∀ a, a ∈ fps (C z) → a ∈ W.S := fun a m => by
    obtain ⟨r, m1, m2⟩ := of_fps m
    exact (g1.ok.own a (mem_fps (hC.subset m1) m2)).1
  refine ⟨W.S, z, g1.ok.al, (fps_sub hC).nodup g1.ok.nod, sub, fun r m => g1.ok.at_ r (hC.subset m), r1, hp, fun d xs H2 bt al c hd hf => ?_⟩
  exact fl σ d xs H2 (g1.ok.after (fun r m => hC.subset m) bt al c).ok hd hf)
/-- a call that raises inside a def that raises -/
theorem evx_callE0 {CE : Addr} {C : γ → List RS} {A : γ → List SF} {w : Ty β} {pre : γ → Prop} {flds : γ → List (Str × SF)} {z : γ} (h : Ea W ar (A z)) (hp : pre z) (fl : ∀ σ, Flies W σ CE (flds z) E)
    (hC : (C z).Sublist W.L := by first | exact List.nil_sublist _ | exact List.Sublist.refl _ | exact List.singleton_sublist.mpr (by simp) | simp) : Evx W (tCall (spE C A pre CE flds) [] E ar) w (fun _ => False) := fun σ H o Q q => h σ H o _ fun vs H1 g1 r1 => by
  have sub : ∀ a, a ∈ fps (C z) → a ∈ W.S := fun a m => by
    obtain ⟨r, m1, m2⟩ := of_fps m
    exact (g1.ok.own a (mem_fps (hC.subset m1) m2)).1
  refine ⟨W.S, z, g1.ok.al, (fps_sub hC).nodup g1.ok.nod, sub, fun r m => g1.ok.at_ r (hC.subset m), by rw [List.append_nil]; exact r1, hp, fun d xs H2 bt al c hd hf => ?_⟩
  exact fl σ d xs H2 (g1.ok.after (fun r m => hC.subset m) bt al c).ok hd hf
end
end Cs
set_option maxHeartbeats 4000000
namespace Cs
open PySem PySem.Spec PyProof.Rows L2
/-! ### a law that asks for the written form of data: it runs where no guard is up -/
/-- what the call of the law from outside is asked for -/
def RunAt (P : Program) (w : World) (K : PySem.W.Frag) (mg : Str → Option Value) (base : Heap) (fa : Addr) (fd : FuncData) (ps : List Str) (sp : Sp) : Prop :=
  ∀ (s : Shared) (H : Hp) (us : List Value) (vs : List V) (Q : VK) (E : XK), Env0 P w K mg base callerA [] s H → BindsTo s fd ⟨us, []⟩ (ps.zip us) → Vals vs us → sp vs H Q E → codeAny (model P w) callerA (.call (.ref fa) ⟨us, []⟩) (CR CX0 [] P w H s Q E) s
theorem run_at {P : Program} {w : World} {K : PySem.W.Frag} {mg : Str → Option Value} {base : Heap} {nm qual : Str} {st : Stmt} {f : Addr} {fd : FuncData} {N ps : List Str} {k : Nat} {sp : Sp} (hr : Room (k + 1) callerA) (F : Fun K nm qual st f fd) (S : FnScope N ps (defScope st)) (len : ∀ vs H Q E, sp vs H Q E → vs.length = ps.length)
    (body : ∀ (cdv : Value) (s : Shared) (H : Hp) (vs : List V) (Q : VK) (E : XK), Room k (callerA.deeper (envOfC qual (defScope st) s.heap.objs.size f cdv)) → sp vs H Q E →
      ∃ t, PSs (cxOf CX0 P w K mg base N qual (defScope st) f cdv callerA [] s H E).nox (defBody st) t ∧ t { nx := fun _ H' => Q .non H', rt := Q } (L2.start N vs) H) : RunAt P w K mg base f fd ps sp := by
  obtain ⟨oc, od, kV, doc, pm, an, cdv, ct, osl, rfl, lk, hcd⟩ := F.ex
  intro s H us vs Q E env bind rel want
  have n0 := len vs H Q E want
  have here : ∀ b o, base.get? b = some o → s.heap.get? b = some o := fun b o z => (env.bs b o z).1
  have kin : K.In s.heap := env.mod.kin.keeps here
  have places : ∀ y ∈ ps.zip us, (defScope st).names.lookup y.1 = some .local ∨ ((defScope st).names.lookup y.1 = some .cell ∧ ((cellsFrom (s.heap.objs.size + 1) (defScope st).names []).lookup y.1).isSome = true) := by
    rintro ⟨n, v⟩ m
    exact (S.par n (List.of_mem_zip m).1).imp id fun z => ⟨z, PySem.W.cellsFrom_some _ _ _ (.inl z)⟩
  refine codeAny_call_function hr.depth (kin _ _ lk) rfl S.co S.gen rfl (PySem.W.codeRec_of kin hcd) (bind _ _ _ _ ?_)
  refine wpAny_newFunctionEnv_cells S.kind places fun e1 he s1 made => ?_
  subst he
  refine ⟨(env.mod.nolimit.keeps here).keeps made.toInCall.keep, codeAny_func ?_⟩
  obtain ⟨t, ht, go⟩ := body cdv s H vs Q E (hr.deeper _) want
  have I : Inv (cxOf CX0 P w K mg base N qual (defScope st) f cdv callerA [] s H E) [] (L2.start N vs) H s1 := inv_start S hr.hd env n0 rel made
  refine wpAny_mono (ht.nox.run [] s1 (L2.start N vs) H _ I go) (fun fl s' hs => ?_) fun _ _ q => q
  have done : ∀ {σ' : L2.St} {H' : Hp} {v : V} {u : Value}, Inv (cxOf CX0 P w K mg base N qual (defScope st) f cdv callerA [] s H E) [] σ' H' s' → RelV v u → Q v H' → CE [] P w H s Q u s' := fun {_ H' v _} J rv q => ⟨v, H', J.os, J.bare, J.base, J.hok, rv, q⟩
  match fl, hs with
  | .ret u, ⟨v, σ', H', J, rv, q⟩ => exact done J rv q
  | .next, ⟨σ', H', J, q⟩ => exact done (v := V.non) (u := Value.none) J rfl q
  | .brk, ⟨_, _, _, q⟩ => exact q.elim
  | .cont, ⟨_, _, _, q⟩ => exact q.elim
/-- the call, from a heap in which at most the script is told -/
theorem call_from {P : Program} {w : World} {K : PySem.W.Frag} {mg mb : Str → Option Value} {fa a : Addr} {fd : FuncData} {x : Str} {sp : Sp} {s : Shared} {vs : List Value} {H : Hp}
    (kin : K.In s.heap) (g : s.heap.Ns mainGlobals mg) (b : s.heap.Ns builtinsNs mb) (bb : ∀ x : Str, x ≠ "__name__" → mb x = bootBuiltins x) (lim : s.heap.NoLimit) (gs : s.gens = #[]) (ha : s.heap.get? a = some { cls := .type "list", data := .seq vs.toArray })
    (F : ∀ base : Heap, K.In base → base.Ns mainGlobals mg → RunAt P w K mg base fa fd [x] sp) (bind : ∀ (s : Shared) (u : Value), BindsTo s fd ⟨[u], []⟩ [(x, u)]) (want : sp [.ref a] H (fun v _ => v = .bl true) fun _ _ _ => False)
    (hO : Only H) (hok : HOk P w H s.heap) (hA : ∀ c, H c ≠ none → c = a) (hK : H a ≠ none → K.lookup a = none) :
    codeAny (model P w) callerA (.call (.ref fa) ⟨[.ref a], []⟩) (fun r s' => r = .ok (.ret (.bool true)) ∧ OldK s.heap s'.heap ∧ s'.os = s.os ∧ AllBare s'.gens) s := by
  have none_or : ∀ c, H c = none ∨ c = a := fun c => by
    cases q : H c with
    | none => exact .inl rfl
    | some u => exact .inr (hA c (by rw [q]; simp))
  have ns' : ∀ {c : Addr} {m : Str → Option Value}, s.heap.Ns c m → (hidT s.heap H).Ns c m := fun {c m} ⟨o, es, ep, e, d, r⟩ => ⟨o, es, ep, hidT_get e ((none_or c).elim id fun z => by
    rw [z, ha] at e
    cases e
    exact absurd (show Data.seq vs.toArray _ = Data.dict es ep from d) (fun y => by cases y)), d, r⟩
  have kin' : K.In (hidT s.heap H) := fun c o e => hidT_get (kin c o e) ((none_or c).elim id fun z => by
    cases q : H c with
    | none => rfl
    | some u => rw [z, hK (by rw [← z, q]; simp)] at e; cases e)
  have md : Mod K mg (hidT s.heap H) := ⟨kin', ns' g, ⟨mb, ns' b, bb⟩, let ⟨mc, h1, h2⟩ := lim; ⟨mc, ns' h1, h2⟩⟩
  have env : Env0 P w K mg (hidT s.heap H) callerA [] s H := ⟨rfl, md, fun c o e => of_hidT e, Nat.le_of_eq (hidT_size _ _), trivial, (fun c hc => absurd (show c ∈ ([] : List Addr) from hc) List.not_mem_nil), hok, .of_eq gs⟩
  refine codeAny_mono (F _ kin' (ns' g) s H [.ref a] [.ref a] _ _ env (bind s (.ref a)) (.cons rfl .nil) want) fun r s' h => ?_
  match r, h with
  | .error _, h => exact h.elim
  | .ok .next, h => exact h.elim
  | .ok .brk, h => exact h.elim
  | .ok .cont, h => exact h.elim
  | .ok (.ret u), ⟨v, H', os, bare, un, hok', r', q⟩ =>
    obtain rfl : v = .bl true := q
    obtain rfl : u = Value.bool true := r'
    refine ⟨rfl, OldK.of_keep fun c o e => ?_, os, bare⟩
    cases q : H c with
    | none => exact un.keep c o e q (fun z => absurd (show c ∈ ([] : List Addr) from z) List.not_mem_nil) (by simp)
    | some u =>
      rcases hO c with z | ⟨ob, xs, z⟩
      · rw [q] at z; cases z
      · have e1 := (hok c _ z).1
        rw [e] at e1; cases e1
        exact (hok' c _ (un.frzs c _ _ z)).1
theorem law_callA {P : Program} {w : World} {K : PySem.W.Frag} {mg mb : Str → Option Value} {fa a : Addr} {fd : FuncData} {x : Str} {sp : Sp} {s : Shared} {vs : List Value} {ns : List Int}
    (kin : K.In s.heap) (g : s.heap.Ns mainGlobals mg) (b : s.heap.Ns builtinsNs mb) (bb : ∀ x : Str, x ≠ "__name__" → mb x = bootBuiltins x) (lim : s.heap.NoLimit) (gs : s.gens = #[]) (ha : s.heap.get? a = some { cls := .type "list", data := .seq vs.toArray }) (hi : IntsAre vs ns) (hl : ns.length ≤ sizeLine)
    (F : ∀ base : Heap, K.In base → base.Ns mainGlobals mg → RunAt P w K mg base fa fd [x] sp) (bind : ∀ (s : Shared) (u : Value), BindsTo s fd ⟨[u], []⟩ [(x, u)])
    (want : ∀ H : Hp, SqL K H a (ns.map V.int) → sp [.ref a] H (fun v _ => v = .bl true) fun _ _ _ => False) :
    codeAny (model P w) callerA (.call (.ref fa) ⟨[.ref a], []⟩) (fun r s' => r = .ok (.ret (.bool true)) ∧ OldK s.heap s'.heap ∧ s'.os = s.os ∧ AllBare s'.gens) s := by
  have rv := vals_ints hi
  cases hk : K.lookup a with
  | some o =>
    have e := kin a o hk
    rw [ha] at e
    cases e
    exact call_from (H := fun _ => none) kin g b bb lim gs ha F bind (want _ (.inr ⟨_, vs.toArray, _, hk, rfl, rfl, rfl, by rw [List.size_toArray, hi.length]; exact hl, by simpa using rv⟩)) (fun _ => .inl rfl) (fun c u z => by cases (show (none : Option HO) = some u from z)) (fun c z => absurd rfl z) fun z => absurd rfl z
  | none =>
    have off : ∀ c, c ≠ a → (if c = a then some (HO.frz { cls := .type "list", data := .seq vs.toArray } (.lst (ns.map V.int))) else none) = none := fun c n => if_neg n
    refine call_from (H := fun c => if c = a then some (.frz { cls := .type "list", data := .seq vs.toArray } (.lst (ns.map V.int))) else none) kin g b bb lim gs ha F bind (want _ (.inl (.inr ⟨{ cls := .type "list", data := .seq vs.toArray }, if_pos rfl⟩))) (fun c => ?_) (fun c u z => ?_) (fun c z => ?_) fun _ => hk
    · by_cases q : c = a
      · exact .inr ⟨_, _, if_pos q⟩
      · exact .inl (off c q)
    · by_cases q : c = a
      · cases (if_pos q).symm.trans z
        subst q
        exact ⟨ha, by rw [List.length_map]; exact hl, vs, _, rv, ha⟩
      · cases (off c q).symm.trans z
    · exact Decidable.byContradiction fun q => z (off c q)
theorem walk_ofA {l : PySem.W.OpenLaw} {n : Nat} {q : Program} {loose : List Str} {XP : (Str → Option Value) → Heap → Prop} {YP : World → Heap → Prop} {d : DefRec} {K : Params → PySem.W.Frag} {sp : World → Sp} {x : Str}
    (hn : l.most = some n) (hn2 : n ≤ sizeLine) (hdf : d.params.defaults = []) (hY : ∀ (w : World) (h : Heap), YP w h → (K w.params).In h)
    (F : ∀ (w : World) (mg : Str → Option Value) (fa : Addr) (h : Heap), (K w.params).In h → h.Ns mainGlobals mg → mg d.name = some (.ref fa) →
      ∃ fd : FuncData, (∀ (s : Shared) (u : Value), BindsTo s fd ⟨[u], []⟩ [(x, u)]) ∧ ∀ base : Heap, (K w.params).In base → base.Ns mainGlobals mg → RunAt l.prog w (K w.params) mg base fa fd [x] (sp w))
    (hsp : ∀ (w : World) (H : Hp) (a : Addr) (ns : List Int), ns.length ≤ n → SqL (K w.params) H a (ns.map V.int) → sp w [.ref a] H (fun v _ => v = .bl true) fun _ _ _ => False) :
    PySem.W.WalkO q loose XP YP l.row.toRowW d [] (fun f vs => PySem.call f vs) := by
  refine Att.attach_call hn hdf fun w s0 s mg mb fa o pm cd doc a vs ns G Y _ _ _ hmg hobj hints hlen hg => ?_
  obtain ⟨fd, hb, hF⟩ := F w mg fa _ (hY w _ Y) G.T.g hmg
  exact law_callA (hY w _ Y) G.T.g G.T.b G.T.builtins G.T.nolimit hg hobj hints (Nat.le_trans hlen hn2) hF hb fun H hS => hsp w H a ns hlen hS
/-! ### repr of data -/
theorem call_repr_dp {X : Cx} {K : PySem.W.Frag} (hK : X.K = K) (hg : X.A.guards = some []) (hu : X.A.units + 64 < cLine) : CallR X (.builtin "repr") (fun xs H Q => ∃ (v : V) (d : PyData), xs = [v] ∧ Dp K H v d ∧ (∃ a, v = .ref a) ∧ d.showable = true ∧ d.hasDict = false ∧ d.depth ≤ 60 ∧ d.shown.length ≤ sizeLine ∧ Q (.str d.shown) H) := by
  subst hK
  intro pins s σ H xs us Q I r h
  obtain ⟨v, d, rfl, hd, ⟨a, rfl⟩, hs, hn, dp, sz, q⟩ := h
  cases r with
  | cons r1 r2 =>
    cases r2
    obtain ⟨as, rd⟩ := Dp.reads I d _ _ hd r1
    obtain rfl : _ = Value.ref a := r1
    refine repr_of_reads' rd hs (fun z => by rw [hn] at z; cases z) hg (by omega) (fun _ _ e => e) (fun h' u tk keep => ?_) sz
    exact ⟨.str _, H, I.kept keep, ⟨_, rfl⟩, q⟩
end Cs
set_option maxHeartbeats 4000000
namespace Cs
open PySem PySem.Spec PyProof.Rows L2
/-! ### an own error, raised without arguments -/
section
variable {X : Cx} {C : Addr} {bmB : List Value} {B newId initId : String}
theorem pmk_own0 {x : Str} {p pos : Pos} (F : ExcBaseFacts B newId initId bmB) (q : PySem.W.excIn X.K C bmB newId = true) (gC : X.mg x = some (.ref C)) (kC : PySem.W.keepIn X.K (.ref C) = true) (r : Raises X (.ref C)) (hg : Gl X x)
    (hdb : (x == ("__debug__" : Str)) = false := by decide) : PMk X (.Call (.Name x p) [] [] pos) (fun _ H Q => Q (.ref C) none H) := by
  intro pins s σ H Q I h
  refine wpAny_Call_Name_kw (ld_glob I hg gC ?_ hdb)
  refine PySem.W.callWith_K0 I.kIn kC ?_
  show wpAny _ _ (call (.ref C) []) _ _ _
  obtain ⟨bm, N, nm, qn, bs, hdct, sn, sub, ab, col, dd, k0, k1, k2, k3, k5, mN, hC, hN, hni, T⟩ := exc_obj I.kIn q
  refine wpAny_call_exc_subT F T hC hN hni (fun h' e hm => ?_) (by show 0 ≤ sizeLine; exact Nat.zero_le _)
  exact mk_of I hm r h (I.hok.gone hm.new)
end
/-- what the written part says of an own error class without __init__ over ValueError (perhaps by another own class) -/
structure ErrC (K : PySem.W.Frag) (mg : Str → Option Value) (x : Str) (C : Addr) : Prop where
  g : mg x = some (.ref C)
  ex : PySem.W.excIn K C [.type "ValueError", .type "Exception", .type "BaseException", .type "object"] "ValueError.__new__" = true
  kp : PySem.W.keepIn K (.ref C) = true
  sb : PySem.W.subIn K (.ref C) (.type "BaseException") = some true
  ty : PySem.W.typeIn K (.ref C) = some (.type "type")

/-! ### errors without arguments, in the typed layer -/
def Flies0 (W : Wd) (σ : L2.St) (CE : Addr) (w : XK) : Prop := ∀ H', Ok W σ H' → w (.ref CE) none H'
section
variable {α β γ δ : Type} {W : Wd} {K : PySem.W.Frag} {ta tb tc td : TE} {t : Ty α} {u : Ty β} {x x' : α} {y : β} {tt uu : TT} {ar ak : TA} {fs : List SF} {i : Nat} {E : XK} {ts us vs : TS} {D : Ends}
def spE0 (C : α → List RS) (A : α → List SF) (pre : α → Prop) (CE : Addr) : Sp := fun vs H _ E => ∃ (S : List Addr) (x : α), (∀ a ∈ S, H a ≠ none) ∧ (fps (C x)).Nodup ∧ (∀ a, a ∈ fps (C x) → a ∈ S) ∧ RsAt (C x) S H ∧ Fits (hid S H) (A x) vs ∧ pre x ∧
  ∀ H', Bt (fps (C x)) H H' → (∀ a, a ∈ fps (C x) → H' a ≠ none) → RsAt (C x) S H' → E (.ref CE) none H'
/-- raise C() -/
theorem go_raise0 {C : Addr} {WW : WX} (fl : ∀ σ, Flies0 W σ C (fun c d H => WW c d σ H)) : Go W (fun _ σ H => (fun (_ : L2.St) (H : Hp) (Q : XK) => Q (.ref C) none H) σ H fun cls d H' => WW cls d σ H') D := fun σ H o => fl σ H o
theorem ok_E0 {P : Program} {w : World} {mg : Str → Option Value} {base : Heap} {nm qual : Str} {st : Stmt} {f : Addr} {fd : FuncData} {N ps : List Str} {k : Nat} {C : α → List RS} {A : α → List SF} {pre : α → Prop} {CE : Addr}
    (F : Fun K nm qual st f fd) (S : FnScope N ps (defScope st)) (hl : ∀ x, (A x).length = ps.length)
    (body : ∀ (cdv : Value) (A' : Around) (outer : List Env) (s : Shared) (H0 : Hp) (S : List Addr) (x : α) (Q : VK) (E : XK), Room k (A'.deeper (envOfC qual (defScope st) s.heap.objs.size f cdv)) → pre x → (∀ σ F G, Flies0 ⟨H0, fps (C x), S, C x, F, G⟩ σ CE E) →
      ∃ t, PSs (cxOf (L2.CX P w) P w K mg base N qual (defScope st) f cdv A' outer s H0 E) (defBody st) t ∧ Go ⟨H0, fps (C x), S, C x, [], (A x).map some ++ List.replicate (N.length - ps.length) none⟩ t { nx := fun _ H' => Q .non H', rt := Q }) :
    FnOk P w K mg base (L2.CX P w) (k + 1) f fd ps (spE0 C A pre CE) := by
  refine F.okX S (fun vs H Q E h => ?_) (fun cdv A' outer s H vs Q E hr h => ?_)
  · obtain ⟨S', x, _, _, _, _, ft, _⟩ := h
    rw [ft.length, hl]
  · obtain ⟨S', x, al, nd, sub, cc, ft, hp, out⟩ := h
    obtain ⟨t, h1, h2⟩ := body cdv A' outer s H S' x Q E hr hp fun σ F' G H' o => out H' o.bt (fun a m => o.al a (sub a m)) o.at_
    refine ⟨t, h1, h2 _ _ ⟨nd, fun a m => ⟨sub a m, .inl m⟩, cc, sub, al, Bt.refl, ?_, (fun f m => nomatch m), fun i f' q => ?_⟩⟩
    · have e1 := ft.length
      have e2 := hl x
      show (L2.start N vs).length = _
      unfold L2.start
      simp only [List.length_append, List.length_map, List.length_replicate]
      omega
    · exact start_slots (by rw [ft.length, hl]) ft q
theorem evx_methE0I {r : RS} {b Cl CE : Addr} {m : Str} {sp : Sp} {C : γ → List RS} {A : γ → List SF} {w : Ty β} {pre : γ → Prop} {z : γ} {gs : List SF} {EE : L2.St → XK} (imp : ∀ vs H Q E, spE0 C A pre CE vs H Q E → sp vs H Q E) (hi : IsOb r b Cl m) (hr : r ∈ W.L) (ho : Ev W ta tRf b) (h : Ea W ar gs) (hA : A z = tRf.is b :: gs) (hp : pre z) (fl : ∀ σ, Flies0 W σ CE (EE σ))
    (hC : (C z).Sublist W.L := by first | exact List.nil_sublist _ | exact List.Sublist.refl _ | exact List.singleton_sublist.mpr (by simp) | simp) : Evx W (tMethX Cl m sp EE ta ar) w (fun _ => False) := fun σ H o Q q => ho σ H o _ fun v0 H0 g0 r0 => by
  obtain rfl : v0 = .ref b := r0
  obtain ⟨dx, fs, h1, h2⟩ := hi _ _ (g0.ok.at_ r hr)
  refine ⟨b, dx, fs, rfl, h1, h2, h σ H0 g0.ok _ fun vs H1 g1 r1 => imp _ _ _ _ ?_⟩
  have sub : ∀ a, a ∈ fps (C z) → a ∈ W.S := fun a m => by
    obtain ⟨r, m1, m2⟩ := of_fps m
    exact (g1.ok.own a (mem_fps (hC.subset m1) m2)).1
  refine ⟨W.S, z, g1.ok.al, (fps_sub hC).nodup g1.ok.nod, sub, fun r m => g1.ok.at_ r (hC.subset m), by rw [hA]; exact ⟨rfl, r1⟩, hp, fun H2 bt al c => ?_⟩
  exact fl σ H2 (g1.ok.after (fun r m => hC.subset m) bt al c).ok
/-- in a def that raises: a method of several promises -/
theorem evx_methU {r : RS} {b Cl : Addr} {m : Str} {sp : Sp} {C : γ → List RS} {A : γ → List SF} {w : Ty β} {pre : γ → Prop} {post : γ → β → Prop} {z : γ} {gs : List SF} (imp : ∀ vs H Q E, spN C A w pre post vs H Q E → sp vs H Q E) (hi : IsOb r b Cl m) (hr : r ∈ W.L) (ho : Ev W ta tRf b) (h : Ea W ar gs) (hA : A z = tRf.is b :: gs) (hp : pre z)
    (hC : (C z).Sublist W.L := by first | exact List.nil_sublist _ | exact List.Sublist.refl _ | exact List.singleton_sublist.mpr (by simp) | simp) : Evx W (tMeth Cl m sp [] E ta ar) w (post z) := fun σ H o Q q => ho σ H o _ fun v0 H0 g0 r0 => by
  obtain rfl : v0 = .ref b := r0
  obtain ⟨dx, fs, h1, h2⟩ := hi _ _ (g0.ok.at_ r hr)
  refine ⟨b, dx, fs, rfl, h1, h2, h σ H0 g0.ok _ fun vs H1 g1 r1 => imp _ _ _ _ ?_⟩
  have sub : ∀ a, a ∈ fps (C z) → a ∈ W.S := fun a m => by
    obtain ⟨r, m1, m2⟩ := of_fps m
    exact (g1.ok.own a (mem_fps (hC.subset m1) m2)).1
  refine ⟨W.S, z, g1.ok.al, (fps_sub hC).nodup g1.ok.nod, sub, fun r m => g1.ok.at_ r (hC.subset m), by rw [List.append_nil, hA]; exact ⟨rfl, r1⟩, hp, fun v y H2 py bt al c rr => ?_⟩
  exact q v y H2 py ((g0.trans g1).trans (g1.ok.after (fun r m => hC.subset m) bt al c)) rr
theorem evx_methUE {r : RS} {b Cl CE : Addr} {m : Str} {sp : Sp} {C : γ → List RS} {A : γ → List SF} {w : Ty β} {pre : γ → Prop} {flds : γ → List (Str × SF)} {z : γ} {gs : List SF} (imp : ∀ vs H Q E, spE C A pre CE flds vs H Q E → sp vs H Q E) (hi : IsOb r b Cl m) (hr : r ∈ W.L) (ho : Ev W ta tRf b) (h : Ea W ar gs) (hA : A z = tRf.is b :: gs) (hp : pre z) (fl : ∀ σ, Flies W σ CE (flds z) E)
    (hC : (C z).Sublist W.L := by first | exact List.nil_sublist _ | exact List.Sublist.refl _ | exact List.singleton_sublist.mpr (by simp) | simp) : Evx W (tMeth Cl m sp [] E ta ar) w (fun _ => False) := fun σ H o Q q => ho σ H o _ fun v0 H0 g0 r0 => by
  obtain rfl : v0 = .ref b := r0
  obtain ⟨dx, fs, h1, h2⟩ := hi _ _ (g0.ok.at_ r hr)
  refine ⟨b, dx, fs, rfl, h1, h2, h σ H0 g0.ok _ fun vs H1 g1 r1 => imp _ _ _ _ ?_⟩
  have sub : ∀ a, a ∈ fps (C z) → a ∈ W.S := fun a m => by
    obtain ⟨r, m1, m2⟩ := of_fps m
    exact (g1.ok.own a (mem_fps (hC.subset m1) m2)).1
  refine ⟨W.S, z, g1.ok.al, (fps_sub hC).nodup g1.ok.nod, sub, fun r m => g1.ok.at_ r (hC.subset m), by rw [List.append_nil, hA]; exact ⟨rfl, r1⟩, hp, fun d xs H2 bt al c hd hf => ?_⟩
  exact fl σ d xs H2 (g1.ok.after (fun r m => hC.subset m) bt al c).ok hd hf
/-- as Flies, where the callee's own cells have come and gone: what was there before the def made things of its own -/
theorem Flies.less {H0 : Hp} {M S : List Addr} {r : RS} {L : List RS} {F : List FF} {G : List (Option SF)} {σ : L2.St} {CE : Addr} {fl : List (Str × SF)} {w : XK} {N : List Addr} (h : Flies ⟨H0, M, S, L, F, G⟩ σ CE fl w) (hS : ∀ a, a ∈ fps L → a ∈ S) (hM : ∀ a ∈ M, a ∈ S) : Flies ⟨H0, M, N ++ S, r :: L, F, G⟩ σ CE fl w :=
  fun d xs H' o hd hf => h d xs H' (Ok.drop o hS hM) hd fun n f m => by
    obtain ⟨u, h1, h2⟩ := hf n f m
    exact ⟨u, h1, f.mono (hid_less fun a z => List.mem_append_right _ z) h2⟩
end
end Cs
set_option maxHeartbeats 4000000
namespace Cs
open PySem PySem.Spec PyProof.Rows L2
section
variable {α β γ δ : Type} {W : Wd} {K : PySem.W.Frag} {ta tb tc td : TE} {t : Ty α} {u : Ty β} {x x' : α} {y : β} {tt uu : TT} {ar ak : TA} {fs : List SF} {i : Nat} {E : XK} {ts us vs : TS} {D : Ends} {r : RS} {q p : Addr} {vxs : List (V × α)} {xs ys : List α} {z : Str}
/-- a name among the names of a thing's list -/
theorem ev_inSR {ws : List (V × Str)} (hr : r ∈ W.L) (hs : SaysR r q tSt ws) (ha : Ev W ta tSt z) (hb : Ev W tb tRf q) : Ev W (tOp (rIn K false) ta tb) tBl (decide (z ∈ ws.map (·.2))) := fun σ H o Q k =>
  ha σ H o _ fun v H1 g1 r1 => hb σ H1 g1.ok _ fun v2 H2 g2 r2 => by
    obtain rfl : v2 = .ref q := r2
    obtain ⟨h1, h2⟩ := hs _ _ (g2.ok.at_ r hr)
    have al : All2 (tSt.r (hid W.S H2)) (ws.map (·.1)) (ws.map (·.2)) := all2_tags h2
    exact ⟨q, _, rfl, .inl (SqL.of h1), by rw [show v = .str z from r1]; rfl, flat_str al, k _ H2 (g1.trans g2) (by rw [show v = .str z from r1]; show V.bl (inV (.str z) _) = _; rw [inV_str al])⟩
theorem ev_niSR {ws : List (V × Str)} (hr : r ∈ W.L) (hs : SaysR r q tSt ws) (ha : Ev W ta tSt z) (hb : Ev W tb tRf q) : Ev W (tOp (rIn K true) ta tb) tBl (!decide (z ∈ ws.map (·.2))) := fun σ H o Q k =>
  ha σ H o _ fun v H1 g1 r1 => hb σ H1 g1.ok _ fun v2 H2 g2 r2 => by
    obtain rfl : v2 = .ref q := r2
    obtain ⟨h1, h2⟩ := hs _ _ (g2.ok.at_ r hr)
    have al : All2 (tSt.r (hid W.S H2)) (ws.map (·.1)) (ws.map (·.2)) := all2_tags h2
    exact ⟨q, _, rfl, .inl (SqL.of h1), by rw [show v = .str z from r1]; rfl, flat_str al, k _ H2 (g1.trans g2) (by rw [show v = .str z from r1]; show V.bl (!inV (.str z) _) = _; rw [inV_str al])⟩
/-! ### equality of pairs; of a list with a thing's list -/
def eqPr (a : Eqt K t) (b : Eqt K u) : Eqt K (tPr K t u) := ⟨fun x => .tuple [a.d x.1, b.d x.2], max a.n b.n + 1, fun ⟨p, v, w, e, s, h1, h2⟩ => by rw [e]; exact .tup s (.cons (a.dp h1) (.cons (b.dp h2) .nil)), fun x => by
  have h1 := a.dep x.1
  have h2 := b.dep x.2
  simp only [PyData.depth, PyData.depthAll]
  omega, fun x y => by
  simp only [PyData.eqv, PyData.eqvAll, Bool.and_true, Bool.and_eq_true, a.inj, b.inj]
  exact ⟨fun ⟨h1, h2⟩ => Prod.ext h1 h2, fun h => by rw [h]; exact ⟨rfl, rfl⟩⟩⟩
theorem lay_pr {a : Eqt K t} {b : Eqt K u} {x : α × β} (h1 : (a.d x.1).canLay0 = true) (h2 : (b.d x.2).canLay0 = true) : ((eqPr a b).d x).canLay0 = true := by
  show (PyData.tuple [a.d x.1, b.d x.2]).canLay0 = true
  simp only [PyData.canLay0, PyData.canLayAll0, h1, h2, Bool.and_true]
theorem cell_dp {H : Hp} {S : List Addr} (e : Eqt K t) (h : (cell p (cTg t vxs)).p (hid S H) H) : Dp K H (.ref p) ((eqLs e).d (vxs.map (·.2))) := by
  obtain ⟨o, h1, rfl, h2⟩ := h
  exact .lst (SqL.of h1) (dpAll_of e (all2_tags fun q m => t.mono hid_sub (h2 q m)))
theorem ev_neDc [DecidableEq α] (e : Eqt K t) (ha : Ev W ta (tLs K t) xs) (hb : Ev W tb tRf p) (hL : cell p (cTg t vxs) ∈ W.L) (l1 : ((eqLs e).d xs).canLay0 = true) (l2 : ((eqLs e).d (vxs.map (·.2))).canLay0 = true) (hn : (eqLs e).n ≤ 64) : Ev W (tOp (rNeD K) ta tb) tBl (!decide (xs = vxs.map (·.2))) := fun σ H o Q k =>
  ha σ H o _ fun v H1 g1 r1 => hb σ H1 g1.ok _ fun v2 H2 g2 r2 => by
    obtain rfl : v2 = .ref p := r2
    exact ⟨_, _, dp_mono hid_sub ((eqLs e).dp ((tLs K t).mono g2.up r1)), cell_dp e (g2.ok.at_ _ hL), (eqLs e).shape hn l1, (eqLs e).shape hn l2, by rw [(eqLs e).dec]; exact k _ H2 (g1.trans g2) rfl⟩
theorem ev_neDc1 [DecidableEq α] (e : Eqt K t) (ha : Ev W ta tRf p) (hL : cell p (cTg t vxs) ∈ W.L) (hb : Ev W tb (tLs K t) xs) (l1 : ((eqLs e).d xs).canLay0 = true) (l2 : ((eqLs e).d (vxs.map (·.2))).canLay0 = true) (hn : (eqLs e).n ≤ 64) : Ev W (tOp (rNeD K) ta tb) tBl (!decide (vxs.map (·.2) = xs)) := fun σ H o Q k =>
  ha σ H o _ fun v H1 g1 r1 => hb σ H1 g1.ok _ fun v2 H2 g2 r2 => by
    obtain rfl : v = .ref p := r1
    exact ⟨_, _, cell_dp e (g2.ok.at_ _ hL), dp_mono hid_sub ((eqLs e).dp r2), (eqLs e).shape hn l2, (eqLs e).shape hn l1, by rw [(eqLs e).dec]; exact k _ H2 (g1.trans g2) rfl⟩
/-- list(xs), the copy a thing of its own -/
theorem go_listT {n : Nat} (ha : Ev W ta (tLs K t) xs) (k : ∀ p vxs, p ∉ W.S → vxs.map (·.2) = xs → Go ⟨W.H0, W.M, p :: W.S, cell p (cTg t vxs) :: W.L, W.F, W.G.set n (some (tRf.is p))⟩ us D) :
    Go W (tSeq (tAsg (tCB (fun xs H Q => ∃ p ys, xs = [.ref p] ∧ (SqL K H p ys ∨ SqT K H p ys) ∧ ∀ l, H l = none → Q (.ref l) (upd H l (.lst ys))) (tCons ta tNil)) (gName n)) us) D := fun σ H o => ha σ H o _ fun v H1 g1 ⟨p, vs, e, s, al⟩ => by
  obtain ⟨vxs, e1, e2, h3⟩ := tags_of al
  refine ⟨p, vs, by rw [e], .inl (SqL.of (hid_sub _ _ s)), fun l nl => k l vxs (g1.ok.off nl) e2 _ _ (Ok.put (i := n) (f := tRf.is l) (g1.ok.cell (ψ := cTg t vxs) (o := .lst vs) nl ⟨by rw [e1], h3⟩).1 rfl)⟩
end
end Cs
set_option maxHeartbeats 4000000
namespace Cs
open PySem PySem.Spec PyProof.Rows L2
section
variable {α β γ δ : Type} {W : Wd} {K : PySem.W.Frag} {ta tb tc td : TE} {t : Ty α} {u : Ty β} {x x' : α} {y : β} {tt uu : TT} {ar ak : TA} {fs : List SF} {i : Nat} {E : XK} {ts us vs : TS} {D : Ends} {r : RS} {q p : Addr} {vxs : List (V × α)} {xs ys : List α} {z : Str}
/-- the end of a def that changes things: what is new is what the things have that was not hidden -/
theorem ends_S2 {C C' : List RS} {S : List Addr} {w : Ty β} {P : β → List RS → Prop} {Q : VK} {σ : L2.St} {H : Hp} {v : V} (o : Ok W σ H) (out : RtS C S W.H0 w P Q) (r : w.r (hid W.S H) v y) (hp : P y C') (hS : ∀ a, a ∈ S → a ∈ W.S) (hL : W.L.Perm C') (hM : W.M = fps C) (al : ∀ a, a ∈ S → W.H0 a ≠ none) (hMS : ∀ a, a ∈ fps C → a ∈ S) : Q v H := by
  have o' := o.perm hL
  have sub : ∀ a, a ∈ (fps C').filter (fun a => decide (a ∉ S)) ++ S → a ∈ W.S := fun a m => by
    rcases List.mem_append.mp m with m | m
    · exact (o'.own a (List.mem_filter.mp m).1).1
    · exact hS a m
  refine out v y ((fps C').filter fun a => decide (a ∉ S)) C' H hp (by rw [← hM]; exact o.bt) (fun a m => ?_) o'.nod (fun a m => ?_) (fun a m => o.al a (o.ms a (by rw [hM]; exact m))) (fun c m => c.mono (hid_less sub) (o'.at_ c m)) (w.mono (hid_less sub) r)
  · obtain ⟨m1, m2⟩ := List.mem_filter.mp m
    have m2 : a ∉ S := of_decide_eq_true m2
    refine ⟨?_, o.al a (o'.own a m1).1⟩
    rcases (o'.own a m1).2 with z | z
    · exact absurd (hMS a (by rw [← hM]; exact z)) m2
    · exact z
  · by_cases q : a ∈ S
    · rcases (o'.own a m).2 with z | z
      · exact .inl (by rw [← hM]; exact z)
      · exact absurd z (al a q)
    · exact .inr (List.mem_filter.mpr ⟨m, by simpa using q⟩)
theorem fps_nil_perm {C : List RS} : (C ++ []).Perm C := by rw [List.append_nil]
/-- a draw whose bound is drawn -/
theorem evx_drawSx {P : Int → Prop} {s : Nat} {d l : Addr} {ns : List Int} (hs : W.G[s]? = some (some (tRf.is d))) (hL : cell d (cSt K d l ns) ∈ W.L) (hm : Evx W ta tInt P) (mb : ∀ m, P m → 0 < m ∧ m.natAbs < 2 ^ 8000) :
    Evx W (tCall (spDrawSA K) [] E (tCons (tVar s) (tCons ta tNil))) tInt (fun v => ∃ m, P m ∧ 0 ≤ v ∧ v < m) := fun σ H o Q q => by
  obtain ⟨v, h1, rfl⟩ := o.slots s _ hs
  refine ⟨.ref d, h1, ?_⟩
  refine hm σ H o _ fun v m H1 pm g1 r => ?_
  obtain ⟨ob, hob, b, c, e, gg, rfl, hl, ne, b0⟩ := g1.ok.at_ _ hL
  refine ⟨d, m, l, ns, by rw [show v = .int m from r]; rfl, (mb m pm).1, (mb m pm).2, ⟨b, c, e, gg, hob, hid_sub.seq hl, ne, b0⟩, fun w H2 w0 w1 bt ⟨b', c', e', gg', hob', _, _, b0'⟩ => ?_⟩
  have fd : fps [cell d (cSt K d l ns)] = [d] := rfl
  have bt' : Bt (fps [cell d (cSt K d l ns)]) H1 H2 := fun a o n h => bt a o (fun z => n (by rw [fd, z]; exact List.mem_cons_self ..)) h
  have hd : d ∈ W.S := (g1.ok.own d (mem_fps hL (List.mem_cons_self ..))).1
  have up : Same (hid W.S H1) (hid W.S H2) := bt'.hid (N := []) (fun a m => by rw [fd] at m; rw [List.mem_singleton.mp m]; exact hd) (fun a m => nomatch m)
  have g2 := g1.ok.after (C := [cell d (cSt K d l ns)]) (fun r m => by rw [List.mem_singleton.mp m]; exact hL) bt' (fun a m => by rw [fd] at m; rw [List.mem_singleton.mp m, hob']; simp) (fun r m => by
    rw [List.mem_singleton.mp m]
    exact ⟨_, hob', b', c', e', gg', rfl, up.seq hl, ne, b0'⟩)
  exact q _ w H2 ⟨m, pm, w0, w1⟩ (g1.trans g2) rfl
theorem ivx_list {P : List α → Prop} (h : Evx W ta (tLs K t) P) : Ivx W (iList K ta) t P := fun σ H o R q => h σ H o _ fun v xs H1 px g1 ⟨p, vs, e, s, al⟩ =>
  ⟨p, e, ⟨vs, (SqL.of (hid_sub _ _ s))⟩, q _ _ _ (ffL K t p vs xs) px g1 ⟨SqL.of s, al⟩ ⟨YAt vs, by
    rw [← al.length]
    exact walk_list.mono (fun H ⟨S, z⟩ => hid_sub.seq z.1) fun i H v H' _ _ h => h, fun i H v H' S hi z _ ⟨e1, e2⟩ => by
    subst e1
    obtain ⟨x, h1, h2⟩ := z.2.getV e2
    exact ⟨Same.refl _, x, h1, h2⟩⟩⟩
/-! ### calls that change things, their arguments of several answers -/
theorem evm_callx {C : γ → List RS} {A : γ → List SF} {w : Ty β} {pre : γ → Prop} {post : γ → β → List RS → Prop} {R : List RS} {G : δ → List SF} {P : δ → Prop} (z : δ → γ) (h : Eax W ar G P) (hA : ∀ c, A (z c) = G c) (hp : ∀ c, P c → pre (z c)) (hL : ∀ c, W.L.Perm (C (z c) ++ R)) : Evm W (tCall (spS C A w pre post) [] E ar) w (fun y W' => ∃ c, P c ∧ Aft W R (post (z c) y) W') := fun σ H o Q q => h σ H o _ fun vs c H1 pc g1 r1 => by
  have o1 := g1.ok.perm (hL c)
  refine ⟨W.S, z c, g1.ok.al, (nodup_app.mp o1.nod).1, fun a m => ?_, fun r m => o1.at_ r (List.mem_append_left _ m), by rw [List.append_nil, hA]; exact r1, hp c pc, fun v y N C' H2 py b hN nd hC' al rs r => ?_⟩
  · obtain ⟨r, m1, m2⟩ := of_fps m
    exact (o1.own a (mem_fps (List.mem_append_left _ m1) m2)).1
  · exact q v y _ H2 ⟨c, pc, N, C', py, rfl⟩ (aft_of g1.ok (hL c) b hN nd hC' al rs) r
/-! ### tests that change things -/
def Etm (W : Wd) (tt : TT) (P : Bool → Wd → Prop) : Prop := ∀ σ H, Ok W σ H → ∀ Q : Bool → Hp → Prop, (∀ b W' H', P b W' → Ok W' σ H' → Q b H') → tt σ H Q
theorem etm_B {P : Bool → Wd → Prop} (h : Evm W ta tBl P) : Etm W (tB ta) P := fun σ H o Q q => h σ H o _ fun v b W' H' p o' r => ⟨b, r, q b W' H' p o'⟩
theorem etm_of {P : Bool → Wd → Prop} (h : Evm W ta tBl P) : Etm W (tTest ta) P := fun σ H o Q q => h σ H o _ fun v b W' H' p o' r => ⟨b, r, q b W' H' p o'⟩
theorem etm_not {P : Bool → Wd → Prop} (h : Etm W tt P) : Etm W (tNot tt) (fun b W' => P (!b) W') := fun σ H o Q q => h σ H o _ fun b W' H' p o' => q (!b) W' H' (by show P (!(!b)) W'; rw [Bool.not_not]; exact p) o'
theorem etm_orF {P : Bool → Wd → Prop} (h : Etm W tt P) (hf : ∀ b W', P b W' → b = false) (g : ∀ W', P false W' → Et W' uu false) : Etm W (tOr tt uu) (fun b W' => b = false ∧ P false W') := fun σ H o Q q => h σ H o _ fun b W' H' p o' => by
  obtain rfl := hf b W' p
  show uu σ H' Q
  exact g W' p σ H' o' Q fun H2 g2 => q false W' H2 ⟨rfl, p⟩ g2.ok
theorem go_ifm {P : Bool → Wd → Prop} (h : Etm W tt P) (h1 : ∀ W', P true W' → Go W' ts D) (h2 : ∀ W', P false W' → Go W' us D) : Go W (tIfS tt ts us) D := fun σ H o => h σ H o _ fun b W' H' p o' => by
  cases b with
  | true => exact h1 W' p σ H' o'
  | false => exact h2 W' p σ H' o'
theorem go_ifrm {P : Bool → Wd → Prop} (h : Etm W tt P) (h1 : ∀ W', P true W' → Go W' ts { D with nx := vs D }) (h2 : ∀ W', P false W' → Go W' vs D) : Go W (tSeq (tIfS tt ts tNext) vs) D := go_ifm h h1 h2
/-! ### written forms -/
def rRepr (K : PySem.W.Frag) : List V → Hp → VK → Prop := fun xs H Q => (∃ (v : V) (d : PyData), xs = [v] ∧ Dp K H v d ∧ (∃ a, v = .ref a) ∧ d.showable = true ∧ d.hasDict = false ∧ d.depth ≤ 60 ∧ d.shown.length ≤ sizeLine ∧ Q (.str d.shown) H) ∨
  (∃ i : Int, xs = [.int i] ∧ i.natAbs.log2 < 1920 ∧ Q (.str (toString i)) H) ∨ ∃ y : Str, xs = [.str y] ∧ (reprText y).length ≤ sizeLine ∧ Q (.str (reprText y)) H
theorem call_repr {X : Cx} {K : PySem.W.Frag} (hK : X.K = K) (hg : X.A.guards = some []) (hu : X.A.units + 64 < cLine) : CallR X (.builtin "repr") (rRepr K) := by
  intro pins s σ H xs us Q I r h
  rcases h with h | ⟨i, rfl, hi, q⟩ | ⟨y, rfl, hy, q⟩
  · exact call_repr_dp hK hg hu pins s σ H xs us Q I r h
  · obtain ⟨u, rfl, t, rfl⟩ := vals1 r
    exact PySem.P.repr_of_int hi ⟨.str _, H, I.tok _, ⟨_, rfl⟩, q⟩
  · obtain ⟨u, rfl, t, rfl⟩ := vals1 r
    exact PySem.P.repr_of_str ⟨.str _, H, I.tok _, ⟨_, rfl⟩, q⟩ hy
/-- how a kind is written -/
structure Wrt (K : PySem.W.Frag) (t : Ty α) (sh : α → Str) (ok : α → Prop) : Prop where
  run : ∀ {S : List Addr} {H : Hp} {v : V} {x : α}, t.r (hid S H) v x → ok x → ∀ Q : VK, Q (.str (sh x)) H → rRepr K [v] H Q
theorem ev_repr {sh : α → Str} {ok : α → Prop} (w : Wrt K t sh ok) (h : Ev W ta t x) (hx : ok x) : Ev W (tCB (rRepr K) (tCons ta tNil)) tSt (sh x) := fun σ H o Q q => h σ H o _ fun v H1 g1 r1 => w.run r1 hx _ (q _ H1 g1 rfl)
theorem evm_repr {sh : α → Str} {ok : α → Prop} {P : α → Wd → Prop} (w : Wrt K t sh ok) (h : Evm W ta t P) (hx : ∀ x W', P x W' → ok x) : Evm W (tCB (rRepr K) (tCons ta tNil)) tSt (fun z W' => ∃ x, P x W' ∧ z = sh x) := fun σ H o Q q => h σ H o _ fun v x W' H1 p o1 r1 => w.run r1 (hx x W' p) _ (q _ _ W' H1 ⟨x, p, rfl⟩ o1 rfl)
theorem evm_neS {P : Str → Wd → Prop} (ha : Evm W ta tSt P) (hb : ∀ x W', P x W' → Ev W' tb tSt z) : Evm W (tOp rNe ta tb) tBl (fun b W' => ∃ x, P x W' ∧ b = !decide (x = z)) := fun σ H o Q q => ha σ H o _ fun v x W' H1 p o1 r1 => hb x W' p σ H1 o1 _ fun v2 H2 g2 r2 => by
  obtain rfl : v = .str x := r1
  obtain rfl : v2 = .str z := r2
  exact ⟨rfl, q _ _ W' H2 ⟨x, p, rfl⟩ g2.ok (by show V.bl _ = V.bl _; simp)⟩
/-! ### answers that are new -/
theorem h0_of {σ : L2.St} {H : Hp} (o : Ok W σ H) {a : Addr} (n : H a = none) : W.H0 a = none := by
  cases q : W.H0 a with
  | none => rfl
  | some ob =>
    by_cases hm : a ∈ W.M
    · exact absurd n (o.al a (o.ms a hm))
    · rw [o.bt a ob hm q] at n; cases n
/-- a list that was not there in G -/
def tNw (G : Hp) {α : Type} (t : Ty α) : Ty (List α) := ⟨fun H v xs => ∃ p vs, v = .ref p ∧ H p = some (.lst vs) ∧ All2 (t.r H) vs xs ∧ G p = none, fun e ⟨p, vs, h, g, h1, h2⟩ => ⟨p, vs, h, e _ _ g, All2.mono (fun _ _ => t.mono e) h1, h2⟩⟩
theorem ev_listNw (h : Ev W ta (tLs K t) xs) : Ev W (tCB (fun xs H Q => ∃ p ys, xs = [.ref p] ∧ (SqL K H p ys ∨ SqT K H p ys) ∧ ∀ l, H l = none → Q (.ref l) (upd H l (.lst ys))) (tCons ta tNil)) (tNw W.H0 t) xs := fun σ H o Q q =>
  h σ H o _ fun v H1 g1 ⟨p, vs, ev, s, al⟩ => ⟨p, vs, by rw [ev], .inl ((SqL.of (hid_sub _ _ s))), fun l nl => q _ _ (g1.trans (g1.ok.new nl)) ⟨l, vs, rfl, (by rw [hid_of (g1.ok.off nl)]; exact upd_same), All2.mono (fun _ _ => t.mono (g1.ok.new nl).up) al, h0_of g1.ok nl⟩⟩
/-- as ok_N, the answer's kind told by the heap that was found -/
theorem ok_NH {P : Program} {w : World} {mg : Str → Option Value} {base : Heap} {nm qual : Str} {st : Stmt} {f : Addr} {fd : FuncData} {N ps : List Str} {k : Nat} {C : α → List RS} {A : α → List SF} {wt : Hp → Ty β} {pre : α → Prop} {post : α → β → Prop}
    (F : Fun K nm qual st f fd) (S : FnScope N ps (defScope st)) (hl : ∀ x, (A x).length = ps.length)
    (body : ∀ (cdv : Value) (A' : Around) (outer : List Env) (s : Shared) (H0 : Hp) (S : List Addr) (x : α) (Q : VK) (E : XK), Room k (A'.deeper (envOfC qual (defScope st) s.heap.objs.size f cdv)) → pre x → Rt (C x) S H0 (wt H0) (post x) Q →
      ∃ t, PSs (cxOf CX0 P w K mg base N qual (defScope st) f cdv A' outer s H0 E).nox (defBody st) t ∧ Go ⟨H0, fps (C x), S, C x, [], (A x).map some ++ List.replicate (N.length - ps.length) none⟩ t { nx := fun _ H' => Q .non H', rt := Q }) :
    FnOk P w K mg base CX0 (k + 1) f fd ps (fun vs H Q E => spN C A (wt H) pre post vs H Q E) := by
  refine F.ok S (fun vs H Q E h => ?_) (fun cdv A' outer s H vs Q E hr h => ?_)
  · obtain ⟨S', x, _, _, _, _, ft, _⟩ := h
    rw [ft.length, hl]
  · obtain ⟨S', x, al, nd, sub, cc, ft, hp, out⟩ := h
    obtain ⟨t, h1, h2⟩ := body cdv A' outer s H S' x Q E hr hp (fun v y H' => out v y H')
    refine ⟨t, h1, h2 _ _ ⟨nd, fun a m => ⟨sub a m, .inl m⟩, cc, sub, al, Bt.refl, ?_, (fun f m => nomatch m), fun i f' q => ?_⟩⟩
    · have e1 := ft.length
      have e2 := hl x
      show (L2.start N vs).length = _
      unfold L2.start
      simp only [List.length_append, List.length_map, List.length_replicate]
      omega
    · exact start_slots (by rw [ft.length, hl]) ft q
end
end Cs
set_option maxHeartbeats 4000000
namespace Cs
open PySem PySem.Spec PyProof.Rows L2
section
variable {α β γ δ : Type} {W : Wd} {K : PySem.W.Frag} {ta tb tc td : TE} {t : Ty α} {u : Ty β} {x x' : α} {y : β} {tt uu : TT} {ar ak : TA} {fs : List SF} {i : Nat} {E : XK} {ts us vs : TS} {D : Ends} {r : RS} {q p : Addr} {vxs : List (V × α)} {xs ys : List α} {z : Str}
/-- a list whose items do not lean on the list itself -/
def tLsH {α : Type} (t : Ty α) : Ty (List α) := ⟨fun H v xs => ∃ p vs, v = .ref p ∧ H p = some (.lst vs) ∧ All2 (t.r (hid [p] H)) vs xs, fun e ⟨p, vs, h, g, h1⟩ => ⟨p, vs, h, e _ _ g, All2.mono (fun _ _ => t.mono (hid_same e)) h1⟩⟩
theorem evx_pr1 {P : β → Prop} {P' : α × β → Prop} (ha : Ev W ta t x) (hb : Evx W tb u P) (h : ∀ y, P y → P' (x, y)) : Evx W (tTup (tCons ta (tCons tb tNil))) (tPr K t u) P' := fun σ H o Q q =>
  ha σ H o _ fun v H1 g1 r1 => hb σ H1 g1.ok _ fun v2 y H2 py g2 r2 => ⟨by show 2 ≤ sizeLine; decide, fun p np => q _ (x, y) _ (h y py) ((g1.trans g2).trans (g2.ok.new np))
    ⟨p, v, v2, rfl, SqT.of (by rw [hid_of (g2.ok.off np)]; exact upd_same), t.mono (g2.up.trans (g2.ok.new np).up) r1, u.mono (g2.ok.new np).up r2⟩⟩
end
section
variable {α β γ : Type} {W : Wd} {K : PySem.W.Frag} {ta tb tc : TE} {t : Ty α} {u : Ty β} {x : α} {y : β} {tt uu : TT} {ar : TA} {ts us : TS} {D : Ends} {g : TG} {as : α → List (Nat × SF)} {wi : TI}
theorem evx_lcH {xs : List α} {P : α → Bool → Prop} {R : α → β → Prop} {vs : List Nat} (h : Iv W wi t xs) (tg : Tgt g t as) (hi : ∀ x, ∀ p ∈ as x, p.1 ∈ vs) (hl : xs.length < sizeLine)
    (ht : ∀ D φ F x, (∀ f ∈ W.F, f ∈ F) → x ∈ xs → Etx ((W.el D φ F vs).puts (as x)) tt (P x))
    (he : ∀ D φ F x, (∀ f ∈ W.F, f ∈ F) → x ∈ xs → P x true → Evx ((W.el D φ F vs).puts (as x)) tb u (R x)) (hp : ∀ (W : Wd) x, (W.puts (as x)).H0 = W.H0 ∧ (W.puts (as x)).M = W.M ∧ (W.puts (as x)).S = W.S ∧ (W.puts (as x)).L = W.L ∧ (W.puts (as x)).F = W.F := by intros; exact ⟨rfl, rfl, rfl, rfl, rfl⟩) :
    Evx W (tLc wi g tt tb vs) (tLsH u) (LcR P R xs) := fun σ H o Q q => by
  refine h σ H o _ fun J H1 f g1 fp wk => ?_
  intro D nD
  obtain ⟨Y, wY, hY⟩ := wk.ex
  let Wk : List β → Wd := fun ys => ⟨W.H0, W.M, D :: W.S, cell D (cLs u ys) :: W.L, f :: ffS (hid W.S H1) :: W.F, W.G⟩
  have start : Ok (Wk []) σ (upd H1 D (.lst [])) := by
    obtain ⟨o1, up⟩ := g1.ok.cell (ψ := cLs u ([] : List β)) nD ⟨[], rfl, trivial⟩
    exact Ok.know (Ok.know o1 (f := ffS (hid W.S H1)) up) (f := f) (f.mono up fp)
  have ff : ∀ ys H, Ok (Wk ys) σ H → f.p (hid (D :: W.S) H) := fun ys H o => o.facts f (List.mem_cons_self ..)
  refine lc_it wY (fun k H' => ∃ ys, LcR P R (xs.take k) ys ∧ Ok (Wk ys) σ H') ⟨[], .nil, start⟩ (fun k H' _ ⟨ys, _, o'⟩ => ⟨_, ff ys H' o'⟩) ?_ ?_
  · rintro k v H0' H' hk ⟨ys, rel, o'⟩ y
    obtain ⟨e, x, hx, rx⟩ := hY k H0' v H' _ hk (ff ys H0' o') o'.al y
    have o' := o'.same e
    have xm := List.mem_of_getElem? hx
    have sub : ∀ q ∈ W.F, q ∈ f :: ffS (hid W.S H1) :: W.F := fun q m => List.mem_cons_of_mem _ (List.mem_cons_of_mem _ m)
    refine tg _ _ H' v x (Ok.wipe (vs := vs) o') rx _ fun σ' oe ew => ?_
    refine ⟨by rw [ew vs (hi x), wipe_twice], ?_⟩
    have back : ∀ H2, Go1 (((W.el D (cLs u ys) (f :: ffS (hid W.S H1) :: W.F) vs).puts (as x))) σ' H' H2 → Ok (Wk ys) σ H2 := fun H2 g2 => by
      obtain ⟨p1, p2, p3, p4, p5⟩ := hp (W.el D (cLs u ys) (f :: ffS (hid W.S H1) :: W.F) vs) x
      have o2 := g2.ok
      have up := g2.up
      rw [p3] at up
      have o3 : Ok { Wk ys with G := ((W.el D (cLs u ys) (f :: ffS (hid W.S H1) :: W.F) vs).puts (as x)).G } σ' H2 := by
        have : ((W.el D (cLs u ys) (f :: ffS (hid W.S H1) :: W.F) vs).puts (as x)) = { Wk ys with G := ((W.el D (cLs u ys) (f :: ffS (hid W.S H1) :: W.F) vs).puts (as x)).G } := by
          generalize ((W.el D (cLs u ys) (f :: ffS (hid W.S H1) :: W.F) vs).puts (as x)) = Z at p1 p2 p3 p4 p5 ⊢
          cases Z
          cases p1; cases p2; cases p3; cases p4; cases p5
          rfl
        rw [← this]
        exact o2
      exact Ok.swap (W := Wk ys) o' o3 up
    refine ht D _ _ x sub xm _ _ oe _ fun b H2 pb g2 => ?_
    cases b with
    | false =>
      refine iteF ⟨ys, ?_, back H2 g2⟩
      rw [take_snoc hx]
      exact .skip rel pb
    | true =>
      refine iteT ?_
      refine he D _ _ x sub xm pb _ _ g2.ok _ fun w z H3 pz g3 rz => ?_
      have o3 := back H3 (g2.trans g3)
      obtain ⟨ob, hob, us', rfl, hus⟩ := o3.at_ _ (List.mem_cons_self ..)
      refine ⟨us', hob, ?_, ys ++ [z], ?_, ?_⟩
      · rw [hus.length]
        refine Nat.lt_of_le_of_lt (Nat.le_trans rel.len ?_) hl
        rw [List.length_take]
        omega
      · rw [take_snoc hx]
        exact .take rel pb pz
      · rw [(hp (W.el D (cLs u ys) (f :: ffS (hid W.S H1) :: W.F) vs) x).2.2.1] at rz
        exact (o3.write (ψ := cLs u (ys ++ [z])) (o := .lst (us' ++ [w])) rfl ⟨_, rfl, hus.app (ws := [w]) (ys := [z]) ⟨rz, trivial⟩⟩).ok
  · rintro H' ⟨ys, rel, o2⟩
    rw [List.take_length] at rel
    obtain ⟨ob, hob, us', rfl, hus⟩ := o2.at_ _ (List.mem_cons_self ..)
    have up := o2.facts (ffS (hid W.S H1)) (List.mem_cons_of_mem _ (List.mem_cons_self ..))
    have less : Same (hid (D :: W.S) H') (hid W.S H') := hid_less fun a h => List.mem_cons_of_mem _ h
    have o3 := Ok.drop (N := [D]) o2 (ok_sub g1.ok) g1.ok.ms
    have o4 : Ok W σ H' := ⟨o3.nod, o3.own, o3.at_, o3.ms, o3.al, o3.bt, o3.len, fun f m => o3.facts f (List.mem_cons_of_mem _ (List.mem_cons_of_mem _ m)), o3.slots⟩
    refine q _ ys _ rel (g1.trans ⟨o4, up.trans less⟩) ⟨D, us', rfl, ?_, All2.mono (fun _ _ => u.mono fun a o h => ?_) hus⟩
    · rw [hid_of (g1.ok.off nD)]
      exact hob
    · unfold hid at h ⊢
      split at h
      · cases h
      · rename_i n
        rw [if_neg (fun m => n (by rw [List.mem_singleton.mp m]; exact List.mem_cons_self ..)), if_neg (fun m => n (List.mem_cons_of_mem _ m))]
        exact h
theorem ev_lcmH {xs : List α} {f : α → β} {vs : List Nat} (h : Iv W wi t xs) (tg : Tgt g t as) (hi : ∀ x, ∀ p ∈ as x, p.1 ∈ vs) (hl : xs.length < sizeLine)
    (he : ∀ D φ F x, (∀ f ∈ W.F, f ∈ F) → x ∈ xs → Ev ((W.el D φ F vs).puts (as x)) tb u (f x)) (hp : ∀ (W : Wd) x, (W.puts (as x)).H0 = W.H0 ∧ (W.puts (as x)).M = W.M ∧ (W.puts (as x)).S = W.S ∧ (W.puts (as x)).L = W.L ∧ (W.puts (as x)).F = W.F := by intros; exact ⟨rfl, rfl, rfl, rfl, rfl⟩) :
    Ev W (tLc wi g tYes tb vs) (tLsH u) (xs.map f) := fun σ H o Q q =>
  evx_lcH (P := fun _ b => b = true) (R := fun x y => y = f x) h tg hi hl (fun D φ F x hF hx => et_yes.toX rfl) (fun D φ F x hF hx e => (he D φ F x hF hx).x rfl) hp σ H o Q fun v ys H' r g1 rr => q v H' g1 (by
    have e : ys = (xs.filter fun _ => true).map f := LcR.det (p := fun _ => true) r
    rw [filter_yes] at e
    exact e ▸ rr)
end
section
variable {α β γ δ : Type} {W : Wd} {K : PySem.W.Frag} {ta tb tc td : TE} {t : Ty α} {u : Ty β} {x x' : α} {y : β} {tt uu : TT} {ar ak : TA} {fs : List SF} {i : Nat} {E : XK} {ts us vs : TS} {D : Ends} {r : RS} {q p : Addr} {vxs : List (V × α)} {xs ys : List α} {z : Str}
/-- p.append(e), e of several answers -/
theorem go_app1Tx {R : List RS} {P : α → Prop} (hL : W.L.Perm (cell p (cTg t vxs) :: R)) (ho : Ev W ta tRf p) (ha : Evx W tb t P) (hl : vxs.length < sizeLine) (k : ∀ v x, P x → ∀ σ H, Ok { W with L := cell p (cTg t (vxs ++ [(v, x)])) :: R } σ H → D.nx σ H) :
    Go W (tDrop (tBM K "list" rAppend ta (tCons tb tNil))) D := fun σ H o => ho σ H o _ fun w H1 g1 r1 => by
  obtain rfl : w = .ref p := r1
  have mem : cell p (cTg t vxs) ∈ W.L := hL.mem_iff.mpr (List.mem_cons_self ..)
  obtain ⟨ob, hob, rfl, _⟩ := g1.ok.at_ _ mem
  refine ⟨.inl ⟨rfl, _, SqL.of hob⟩, ha σ H1 g1.ok _ fun y x H2 px g2 ry => ?_⟩
  obtain ⟨ob, hob, rfl, al⟩ := g2.ok.at_ _ mem
  refine ⟨p, _, y, rfl, rfl, hob, by rw [List.length_map]; exact hl, k y x px _ _ ((g2.ok.perm hL).write (ψ := cTg t (vxs ++ [(y, x)])) rfl ⟨by rw [List.map_append]; rfl, fun q m => ?_⟩).ok⟩
  rcases List.mem_append.mp m with m | m
  · exact al q m
  · rw [List.mem_singleton.mp m]; exact ry
/-- the list is done: it is read only -/
theorem go_frzT {S : List Addr} {L : List RS} {H0 : Hp} {M : List Addr} {F : List FF} {G : List (Option SF)} (hp : G[i]? = some (some (tRf.is p))) (hM : ∀ a ∈ M, a ∈ S) (hn : p ∉ S) (hS : ∀ a, a ∈ fps L → a ∈ S)
    (k : Go ⟨H0, M, S, L, F, G.set i (some ((tLs K t).is (vxs.map (·.2))))⟩ ts D) : Go ⟨H0, M, p :: S, cell p (cTg t vxs) :: L, F, G⟩ ts D := fun σ H o => by
  obtain ⟨v, h1, h2⟩ := o.slots i _ hp
  obtain rfl : v = .ref p := h2
  obtain ⟨ob, hob, rfl, al⟩ := o.at_ _ (List.mem_cons_self ..)
  have o2 := Ok.drop (N := [p]) o hS hM
  have up : Same (hid (p :: S) H) (hid S H) := hid_less fun a h => List.mem_cons_of_mem _ h
  have o3 := Ok.put (i := i) (v := .ref p) (f := (tLs K t).is (vxs.map (·.2))) o2 ⟨p, _, rfl, (by rw [hid_of hn]; exact hob), all2_tags fun q m => t.mono up (al q m)⟩
  rw [set_self h1] at o3
  exact k σ H o3
/-- an if of two suites whose ends meet -/
theorem go_ifj2 {ι : Type} {P : Bool → Prop} (Wj : ι → Wd) (Pj : ι → Prop) (h : Etx W tt P) (h1 : P true → ∀ nx : L2.St → Hp → Prop, (∀ c, Pj c → ∀ σ H, Ok (Wj c) σ H → nx σ H) → Go W ts { D with nx := nx }) (h2 : P false → ∀ nx : L2.St → Hp → Prop, (∀ c, Pj c → ∀ σ H, Ok (Wj c) σ H → nx σ H) → Go W us { D with nx := nx }) (hk : ∀ c, Pj c → Go (Wj c) vs D) : Go W (tSeq (tIfS tt ts us) vs) D :=
  go_ifx (D := { D with nx := vs D }) h (fun p => h1 p (vs D) fun c pc σ H o => hk c pc σ H o) fun p => h2 p (vs D) fun c pc σ H o => hk c pc σ H o
/-- as ok_P, for the law itself -/
theorem ok_PA {P : Program} {w : World} {mg : Str → Option Value} {base : Heap} {nm qual : Str} {st : Stmt} {f : Addr} {fd : FuncData} {N ps : List Str} {k : Nat} {A : α → List SF} {wt : Ty β} {pre : α → Prop} {g : α → β} (hroom : Room (k + 1) callerA)
    (F : Fun K nm qual st f fd) (S : FnScope N ps (defScope st)) (hl : ∀ x, (A x).length = ps.length)
    (body : ∀ (cdv : Value) (s : Shared) (H0 : Hp) (S : List Addr) (x : α) (Q : VK) (E : XK), Room k (callerA.deeper (envOfC qual (defScope st) s.heap.objs.size f cdv)) → pre x → Rt [] S H0 wt (fun y => y = g x) Q →
      ∃ t, PSs (cxOf CX0 P w K mg base N qual (defScope st) f cdv callerA [] s H0 E).nox (defBody st) t ∧ Go ⟨H0, [], S, [], [], (A x).map some ++ List.replicate (N.length - ps.length) none⟩ t { nx := fun _ H' => Q .non H', rt := Q }) :
    RunAt P w K mg base f fd ps (spP A wt pre g) := by
  refine run_at hroom F S (fun vs H Q E h => ?_) (fun cdv s H vs Q E hr h => ?_)
  · obtain ⟨S', x, _, _, _, _, ft, _⟩ := h
    rw [ft.length, hl]
  · obtain ⟨S', x, al, nd, sub, cc, ft, hp, out⟩ := h
    obtain ⟨t, h1, h2⟩ := body cdv s H S' x Q E hr hp (fun v y H' => out v y H')
    refine ⟨t, h1, h2 _ _ ⟨nd, fun a m => ⟨sub a m, .inl m⟩, cc, (fun a m => nomatch m), al, Bt.refl, ?_, (fun f m => nomatch m), fun i f' q => ?_⟩⟩
    · have e1 := ft.length
      have e2 := hl x
      show (L2.start N vs).length = _
      unfold L2.start
      simp only [List.length_append, List.length_map, List.length_replicate]
      omega
    · exact start_slots (by rw [ft.length, hl]) ft q
theorem ok_forget {σ : L2.St} {H : Hp} {j : Nat} {o : Option V} (h : Ok { W with G := W.G.set j none } σ H) : Ok { W with G := W.G.set j none } (σ.set j o) H :=
  ⟨h.nod, h.own, h.at_, h.ms, h.al, h.bt, by show (σ.set j o).length = _; rw [List.length_set]; exact h.len, h.facts, fun k g q => by
    have q : (W.G.set j none)[k]? = some (some g) := q
    by_cases e : j = k
    · subst e
      by_cases l : j < W.G.length
      · rw [List.getElem?_set, if_pos rfl, if_pos l] at q; cases q
      · rw [List.getElem?_set, if_pos rfl, if_neg l] at q; cases q
    · obtain ⟨w, h1, h2⟩ := h.slots k g q
      exact ⟨w, by rw [List.getElem?_set, if_neg e]; exact h1, h2⟩⟩
theorem ok_hush {σ : L2.St} {H : Hp} {j : Nat} (h : Ok W σ H) : Ok { W with G := W.G.set j none } σ H :=
  ⟨h.nod, h.own, h.at_, h.ms, h.al, h.bt, by show σ.length = (W.G.set j none).length; rw [List.length_set]; exact h.len, h.facts, fun k g q => by
    have q : (W.G.set j none)[k]? = some (some g) := q
    by_cases e : j = k
    · subst e
      by_cases l : j < W.G.length
      · rw [List.getElem?_set, if_pos rfl, if_pos l] at q; cases q
      · rw [List.getElem?_set, if_pos rfl, if_neg l] at q; cases q
    · rw [List.getElem?_set, if_neg e] at q
      exact h.slots k g q⟩
end
end Cs
set_option maxHeartbeats 4000000
namespace Cs
open PySem PySem.Spec PyProof.Rows L2
/-! ### dicts with keys that are tuples of texts -/
/-- d.setdefault(y, z), d a dict with keys that are tuples -/
def tDSetdT (td ty tx : TE) : TE := fun σ H Q => td σ H fun x H1 => ∃ a, x = .ref a ∧ IsD H1 a ∧ ty σ H1 fun y H2 => tx σ H2 fun z H3 => ∃ (kvs : List (List Key × V)) (k : List Key) (b : Addr), H3 a = some (.dT kvs) ∧ y = .ref b ∧ H3 b = some (.tup (k.map kV)) ∧ kvs.length < sizeLine ∧
  (∀ v, valV kvs k = some v → Q v H3) ∧ (valV kvs k = none → Q z (upd H3 a (.dT (putK kvs k z))))
section
variable {X : Cx} {pins : List (Addr × Obj)} {σ : L2.St} {H : Hp} {s : Shared} {a b : Addr} {u r : Value} {d : V} {k : List Key} {A : Around} {E : Value → Shared → Prop}
theorem d_setdT {kvs : List (List Key × V)} {Q : Value → Shared → Prop} (hu : A.units + 1 < cLine) (I : Inv X pins σ H s) (e : H a = some (.dT kvs)) (eb : H b = some (.tup (k.map kV))) (rd : RelV d r) (hl : kvs.length < sizeLine)
    (h1 : ∀ v, valV kvs k = some v → ∀ (w' : Value) (s' : Shared), Inv X pins σ H s' → RelV v w' → Q w' s') (h2 : valV kvs k = none → ∀ (w' : Value) (s' : Shared), Inv X pins σ (upd H a (.dT (putK kvs k d))) s' → RelV d w' → Q w' s') :
    wpAny (model X.prog X.w) A (call (.builtin "dict.setdefault") [.ref a, .ref b, r]) Q E s := by
  obtain ⟨z, hd, xs, rel, dd⟩ := dt_of I.hok e
  have hz : xs.length ≤ sizeLine := by rw [← Paired.length rel]; exact z
  have hl2 : (putK kvs k d).length ≤ sizeLine := by have := length_putK kvs k d; omega
  have q := rel.val k
  refine call_setdefault_heap (hsz := hz) (tupleKind_room_in1 hu) (key_of I.hok eb) hd dd (fun p hp => ?_) (fun hn h' dd' hs => ?_)
  · rw [hp] at q
    cases q0 : valV kvs k with
    | none => rw [q0] at q; exact (show False from q).elim
    | some v0 => rw [q0] at q; exact h1 v0 q0 _ _ (I.tok _) q
  · rw [hn] at q
    cases q0 : valV kvs k with
    | some v0 => rw [q0] at q; exact (show False from q).elim
    | none =>
      refine h2 q0 _ _ ?_ rd
      obtain ⟨ob, es, ep, hq, g2, g3, g4, _, g5⟩ := dd'
      refine d_write I (by rw [e]; exact True.intro) hs ⟨ob, hq⟩ ⟨hl2, hd, _, (rel.put k eb rd).keeps fun c ys ec => ?_, ob, es, ep, hq, g2, g3, g4, g5⟩
      rw [upd_ne (ne_of ec e (fun z => nomatch z))]
      exact ec
theorem pe_dsetdT {o e f : Expr} {td ty tx : TE} {apos cpos : Pos} (hu : X.A.units + 1 < cLine) (ho : PE X o td) (he : PE X e ty) (hf : PE X f tx) (m : M2 X o "setdefault" apos e f cpos) : PE X (.Call (.Attribute o "setdefault" apos) [e, f] [] cpos) (tDSetdT td ty tx) := by
  refine ⟨fun pins s σ H Q I h => ?_⟩
  refine wpAny_Call_method m.base m.few m.line PySem.F.plainAttrs_dict PySem.F.slot_dict_setdefault PySem.F.type_dict_setdefault (thn (ho.run pins s σ H _ I h) fun u s1 ⟨x, H1, I1, rx, a, ex, d, q1⟩ => ?_)
  subst ex
  obtain rfl : u = Value.ref a := rx
  obtain ⟨t1, t2, _⟩ := isD_at I1 d
  refine ⟨t1, t2, ?_⟩
  rw [m.trees]
  refine Calls.callWith_builtin rfl (Calls.evalArgs_plain (Calls.spliced_cons (thn (he.run pins s1 σ H1 _ I1 q1) fun iv s2 ⟨y, H2, I2, ry, q2⟩ =>
    Calls.spliced_cons (thn (hf.run pins s2 σ H2 _ I2 q2) fun fv s3 ⟨z, H3, I3, rz, kvs, k, b, ea, ey, eb, hl, q3, q4⟩ => Calls.spliced_nil ?_))))
  subst ey
  obtain rfl : iv = Value.ref b := ry
  exact d_setdT hu I3 ea eb rz hl (fun v hv w' s4 I4 rw' => ⟨v, _, I4, rw', q3 v hv⟩) fun hn w' s4 I4 rw' => ⟨z, _, I4, rw', q4 hn⟩
end
/-- list(d.values()), d a dict with keys that are tuples -/
def tListValsT (td : TE) : TE := fun σ H Q => td σ H fun x H1 => ∃ (a : Addr) (kvs : List (List Key × V)), x = .ref a ∧ H1 a = some (.dT kvs) ∧ ∀ q, H1 q = none → Q (.ref q) (upd H1 q (.lst (kvs.map (·.2))))
theorem vals_atT {H : Hp} {kvs : List (List Key × V)} {xs : List (List Key × Addr × Value)} {us : List Value} (r : KT H kvs xs) (hl : us.length = xs.length) (h : ∀ (j : Nat) (v : Value), us[j]? = some v → ∃ y, xs[j]? = some y ∧ v = y.2.2) : Vals (kvs.map (·.2)) us := by
  have e : us = xs.map (·.2.2) := by
    refine List.ext_getElem? fun j => ?_
    rw [List.getElem?_map]
    cases c : us[j]? with
    | none =>
      rw [List.getElem?_eq_none_iff] at c
      rw [List.getElem?_eq_none (by omega)]
      rfl
    | some v =>
      obtain ⟨y, hy, rfl⟩ := h j v c
      rw [hy]
      rfl
  rw [e]
  clear h hl e
  induction r with
  | nil => exact .nil
  | cons q _ ih => exact .cons q.2.2 ih
theorem pe_listValsT {X : Cx} {o : Expr} {td : TE} {p pos apos mpos : Pos} (hc : X.calm = true) (hg : Gl X "list") (hm : X.mg "list" = none) (hd : PE X o td) (hbase : attributeBase o "values" X.env (eval o X.env) = eval o X.env := by rfl) (hline : (apos.endLine == mpos.line) = true := by rfl)
    (hs : starEach [.Call (.Attribute o "values" apos) [] [] mpos] X.env = (false, eval (.Call (.Attribute o "values" apos) [] [] mpos) X.env) :: starEach [] X.env := by rfl) : PE X (.Call (.Name "list" p) [.Call (.Attribute o "values" apos) [] [] mpos] [] pos) (tListValsT td) := by
  refine ⟨fun ps s σ H Q I h => ?_⟩
  refine Call_ (ld_blt I hg hm boot_list (PyProof.Rows.callWith_type1 (args_cons ?_ hs) hs rfl))
  refine wpAny_Call_method (T := "dict") (id := "dict.values") hbase rfl hline F.plainAttrs_dict F.slot_dict_values F.type_dict_values (thn (hd.run ps s σ H _ I h) fun u s1 => ?_)
  rintro ⟨x, H1, I1, rx, a, kvs, rfl, ha, q⟩
  obtain rfl : u = Value.ref a := rx
  obtain ⟨z, lo, xs, rel, dof⟩ := dt_of I1.hok ha
  obtain ⟨t1, t2, _⟩ := isD_at I1 (.inr ⟨kvs, .inl ha⟩)
  refine ⟨t1, t2, ?_⟩
  obtain ⟨es, ep, raw, hsz, hes⟩ := Heap.DictOfH.raw dof
  show wpAny _ _ (callWith mpos (.builtin "dict.values") [.ref a] [] []) _ X.xe s1
  have up : ∀ b ob, s1.heap.get? b = some ob → (s1.heap.push { cls := .type "dict_values", data := .fields #[.ref a] }).get? b = some ob := fun b ob e => Heap.get?_push_of_some _ e
  have I2 : Inv X ps σ H1 { s1 with heap := s1.heap.push { cls := .type "dict_values", data := .fields #[.ref a] } } := I1.kept (t' := s1.toks) up
  have lxs : xs.length = kvs.length := (Paired.length rel).symm
  refine method_meetsIn F.slot_dict_values F.entry_dict_values rfl (PySem.evalArgs_none ⟨rfl, t1, F.args_dict_values_1 _, _, meets_dict_values_raw a lo, ⟨⟨es, ep, raw⟩, args_nil ?_⟩⟩)
  refine PySem.W.kdl_call (PySem.KdlSrc.rawValues (r := s1.heap.objs.size) (d := a) (es := es) (ep := ep)) (I1.ok.hd hc) ⟨⟨_, Heap.get?_push_size _ rfl, rfl, rfl⟩, raw.at fun _ e => up _ _ e⟩ (by rw [hsz, lxs]; exact z) fun h' tk acc c' hk hD hacc => ?_
  have hv : Vals (kvs.map (·.2)) acc.toList := vals_atT rel (by rw [Array.length_toList]; exact hacc.1.trans hsz) fun j v e => by
    obtain ⟨hi, rfl⟩ := hacc.2 j v (by rw [← Array.getElem?_toList]; exact e)
    obtain ⟨y, hy, _, e2, _⟩ := hes j hi
    exact ⟨y, hy, e2⟩
  refine ⟨.ref _, upd H1 _ (.lst (kvs.map (·.2))), I2.laid (t' := tk) hk (Nat.le_refl _) (show ObjOk X.prog X.w _ _ _ (.lst (kvs.map (·.2))) from ⟨by rw [List.length_map]; exact z, acc.toList, c', hv, by rw [Array.toArray_toList]; exact hD⟩), rfl, q _ (I2.hok.fresh (Nat.le_refl _))⟩
/-! ### in the typed layer -/
abbrev TagT (α : Type) := List Str × V × α
def mapTv {α : Type} (ms : List (TagT α)) : List (List Key × V) := ms.map fun m => (m.1.map Sum.inr, m.2.1)
def cMapT {α : Type} (t : Ty α) (ms : List (TagT α)) : CF := ⟨fun F o => o = .dT (mapTv ms) ∧ ∀ m ∈ ms, t.r F m.2.1 m.2.2, fun e ⟨h, g⟩ => ⟨h, fun m mm => t.mono e (g m mm)⟩⟩
/-- a tuple of texts, a key -/
def tKey : Ty (List Str) := ⟨fun F v xs => ∃ p, v = .ref p ∧ F p = some (.tup (xs.map V.str)), fun e ⟨p, h, g⟩ => ⟨p, h, e _ _ g⟩⟩
theorem key_map (xs : List Str) : xs.map V.str = (xs.map (Sum.inr : Str → Key)).map kV := by
  rw [List.map_map]
  rfl
theorem inr_inj : ∀ {xs ys : List Str}, xs.map (Sum.inr : Str → Key) = ys.map Sum.inr → xs = ys
  | [], [], _ => rfl
  | [], _ :: _, h => by cases h
  | _ :: _, [], h => by cases h
  | x :: xs, y :: ys, h => by
    rw [List.map_cons, List.map_cons] at h
    injection h with h1 h2
    injection h1 with h1
    rw [h1, inr_inj h2]
theorem mapT_val {α : Type} : ∀ {ms : List (TagT α)} {k : List Str}, (valV (mapTv ms) (k.map Sum.inr)).isSome = decide (k ∈ ms.map (·.1))
  | [], k => rfl
  | m :: ms, k => by
    have ih := mapT_val (ms := ms) (k := k)
    unfold valV mapTv at ih ⊢
    rw [List.map_cons, List.find?_cons, List.map_cons]
    by_cases q : m.1 = k
    · simp [q]
    · have : ¬ (m.1.map (Sum.inr : Str → Key) = k.map Sum.inr) := fun z => q (inr_inj z)
      simp only [this, decide_false]
      rw [show (decide (k ∈ m.1 :: ms.map (·.1))) = decide (k ∈ ms.map (·.1)) from by rw [Bool.eq_iff_iff, decide_eq_true_eq, decide_eq_true_eq, List.mem_cons]; exact ⟨fun h => h.resolve_left fun e => q e.symm, .inr⟩]
      exact ih
theorem mapT_put {α : Type} {ms : List (TagT α)} {k : List Str} {v : V} {x : α} (h : k ∉ ms.map (·.1)) : putK (mapTv ms) (k.map Sum.inr) v = mapTv (ms ++ [(k, v, x)]) := by
  have e : ((mapTv ms).any fun kv => decide (kv.1 = k.map Sum.inr)) = false := by
    rw [List.any_eq_false]
    intro kv m
    unfold mapTv at m
    obtain ⟨m0, mm, rfl⟩ := List.mem_map.mp m
    simp only [decide_eq_true_eq]
    exact fun z => h (inr_inj z ▸ List.mem_map_of_mem (f := (·.1)) mm)
  unfold putK
  rw [e]
  unfold mapTv
  rw [List.map_append]
  rfl
theorem strs_of {F : Hp} : ∀ {vs : List V} {xs : List Str}, All2 (tSt.r F) vs xs → vs = xs.map V.str
  | [], [], _ => rfl
  | [], _ :: _, h => h.elim
  | _ :: _, [], h => h.elim
  | v :: vs, x :: xs, h => by rw [List.map_cons, ← strs_of h.2, show v = V.str x from h.1]
section
variable {α β γ δ : Type} {W : Wd} {K : PySem.W.Frag} {ta tb tc td ty tx : TE} {t : Ty α} {u : Ty β} {x x' : α} {y : β} {ar ak : TA} {fs : List SF} {i : Nat} {us vs : TS} {D : Ends} {p : Addr} {ms : List (TagT α)} {xs : List Str} {P : List Str → Prop}
/-- tuple(xs) -/
theorem ev_tupOf (h : Ev W ta (tLs K tSt) xs) : Ev W (tThen ta (kTup K)) tKey xs := fun σ H o Q q => h σ H o _ fun v H1 g1 ⟨p, vs, e, s, al⟩ => by
  have e2 : vs = xs.map V.str := strs_of al
  subst e2
  exact .inl ⟨p, _, e, SqL.of (hid_sub _ _ s), fun l nl => q _ _ (g1.trans (g1.ok.new nl)) ⟨l, rfl, by rw [hid_of (g1.ok.off nl)]; exact upd_same⟩⟩
theorem evx_tupOf (h : Evx W ta (tLs K tSt) P) : Evx W (tThen ta (kTup K)) tKey P := fun σ H o Q q => h σ H o _ fun v xs H1 px g1 ⟨p, vs, e, s, al⟩ => by
  have e2 : vs = xs.map V.str := strs_of al
  subst e2
  exact .inl ⟨p, _, e, SqL.of (hid_sub _ _ s), fun l nl => q _ _ _ px (g1.trans (g1.ok.new nl)) ⟨l, rfl, by rw [hid_of (g1.ok.off nl)]; exact upd_same⟩⟩
/-- sorted(xs), texts -/
theorem evx_sortS (h : Ev W ta (tLs K tSt) xs) (h64 : xs.length < 64) : Evx W (tCB (rSortedS K) (tCons ta tNil)) (tLs K tSt) (fun ys => ys.Perm xs ∧ sortedS ys = true) := fun σ H o Q q => h σ H o _ fun v H1 g1 ⟨p, vs, e, s, al⟩ => by
  have e2 : vs = xs.map V.str := strs_of al
  subst e2 e
  exact ⟨p, xs, rfl, SqL.of (hid_sub _ _ s), h64, fun ys l pm so nl => q _ ys _ ⟨pm, so⟩ (g1.trans (g1.ok.new nl)) ⟨l, _, rfl, by rw [hid_of (g1.ok.off nl)]; exact upd_same, all2_str _ ys⟩⟩
/-- d = {} -/
theorem go_newMT (t : Ty α) (k : ∀ p, p ∉ W.S → Go ⟨W.H0, W.M, p :: W.S, cell p (cMapT t []) :: W.L, W.F, W.G.set i (some (tRf.is p))⟩ us D) : Go W (tSeq (tAsg tDNewT (gName i)) us) D := fun σ H o =>
  fun p np => k p (o.off np) _ _ (Ok.put (i := i) (f := tRf.is p) (o.cell (ψ := cMapT t []) np ⟨rfl, fun m mm => nomatch mm⟩).1 rfl)
/-- d.setdefault(key, x) -/
theorem go_setdT {s : Nat} {R : List RS} {nx : L2.St → Hp → Prop} (hs : W.G[s]? = some (some (tRf.is p))) (hL : W.L.Perm (cell p (cMapT t ms) :: R)) (ha : Evx W ta tKey P) (hb : Ev W tb t x) (hl : ms.length < sizeLine) (hD : D.nx = nx)
    (k1 : ∀ key, P key → key ∈ ms.map (·.1) → ∀ σ H, Ok W σ H → nx σ H) (k2 : ∀ key v, P key → key ∉ ms.map (·.1) → ∀ σ H, Ok { W with L := cell p (cMapT t (ms ++ [(key, v, x)])) :: R } σ H → nx σ H) : Go W (tDrop (tDSetdT (tVar s) ta tb)) D := fun σ H o => by
  obtain ⟨w, h1, rfl⟩ := o.slots s _ hs
  obtain ⟨ob0, hob0, rfl, _⟩ := o.at_ (cell p (cMapT t ms)) (hL.mem_iff.mpr (List.mem_cons_self ..))
  refine ⟨.ref p, h1, p, rfl, .inr ⟨_, .inl hob0⟩, ha σ H o _ fun v key H1 pk g1 ⟨b, e1, e2⟩ => hb σ H1 g1.ok _ fun z H2 g2 r2 => ?_⟩
  obtain ⟨ob, hob, rfl, ht⟩ := g2.ok.at_ (cell p (cMapT t ms)) (hL.mem_iff.mpr (List.mem_cons_self ..))
  have hk : H2 b = some (.tup ((key.map (Sum.inr : Str → Key)).map kV)) := by rw [← key_map]; exact hid_sub _ _ (g2.up _ _ e2)
  refine ⟨mapTv ms, key.map Sum.inr, b, hob, e1, hk, by unfold mapTv; rw [List.length_map]; exact hl, fun v0 q0 => ?_, fun q0 => ?_⟩
  · show D.nx σ _
    rw [hD]
    refine k1 key pk ?_ σ _ g2.ok
    have := mapT_val (ms := ms) (k := key)
    rw [q0] at this
    simpa using this.symm
  · have nk : key ∉ ms.map (·.1) := by
      have := mapT_val (ms := ms) (k := key)
      rw [q0] at this
      simpa using this.symm
    show D.nx σ _
    rw [hD, mapT_put (x := x) nk]
    exact k2 key z pk nk σ _ ((g2.ok.perm hL).write (ψ := cMapT t (ms ++ [(key, z, x)])) (o := .dT (mapTv (ms ++ [(key, z, x)]))) rfl ⟨rfl, fun m mm => by
      rcases List.mem_append.mp mm with mm | mm
      · exact ht m mm
      · rw [List.mem_singleton.mp mm]; exact r2⟩).ok
/-- list(d.values()) -/
theorem ev_valsMT (hL : cell p (cMapT t ms) ∈ W.L) (hd : Ev W td tRf p) : Ev W (tListValsT td) (tLs K t) (ms.map fun m => m.2.2) := fun σ H o Q k =>
  hd σ H o _ fun w H1 g1 r1 => by
    obtain rfl : w = .ref p := r1
    obtain ⟨o1, ho1, rfl, ht⟩ := g1.ok.at_ _ hL
    refine ⟨p, mapTv ms, rfl, ho1, fun l nl => k _ _ (g1.trans (g1.ok.new nl)) ⟨l, _, rfl, (by rw [hid_of (g1.ok.off nl)]; exact upd_same), All2.mono (fun _ _ => t.mono (g1.ok.new nl).up) ?_⟩⟩
    have e : (mapTv ms).map (·.2) = (ms.map fun m => m.2).map (·.1) := by unfold mapTv; rw [List.map_map, List.map_map]; rfl
    have e2 : (ms.map fun m => m.2.2) = (ms.map fun m => m.2).map (·.2) := by rw [List.map_map]; rfl
    rw [e, e2]
    exact all2_tags fun q mq => by
      obtain ⟨m, mm, rfl⟩ := List.mem_map.mp mq
      exact ht m mm
end
end Cs
set_option maxHeartbeats 4000000
namespace Cs
open PySem PySem.Spec PyProof.Rows L2
/-! ### sorted by a def that tells an attribute -/
theorem key_run {X : Cx} {pins : List (Addr × Obj)} {σ : L2.St} {H : Hp} {s : Shared} {k : Nat} {nm qual p0 fld z : Str} {st : Stmt} {f a C dx : Addr} {fd : FuncData} {N : List Str} {fs : List (Str × V)} {q1 q2 q3 : Pos} (F : Fun X.K nm qual st f fd) (S : FnScope N [p0] (defScope st)) (hb : Binds X.K fd [p0] [])
    (body : defBody st = [.Return (some (.Attribute (.Name p0 q1) fld q2)) q3]) (hN : N[0]? = some p0) (hd : (p0 == ("__debug__" : Str)) = false) (hl : (defScope st).names.lookup p0 = some .local) (hv : Vis (defScope st) p0) (hab : ∀ env, attributeBase (.Name p0 q1) fld env (eval (.Name p0 q1) env) = eval (.Name p0 q1) env)
    (I : Inv X pins σ H s) (hr : Room k X.A) (e : H a = some (.ins C dx fs)) (c : Cls X.K C) (n : NoAttr X.K C fld) (l : fs.lookup fld = some (V.str z)) :
    wpAny (model X.prog X.w) X.A.in1.in1 (call (.ref f) [.ref a]) (PySem.W.KeyPure (.str z) s) (fun _ _ => False) s := by
  obtain ⟨oc, od, kV, doc, pm, an, cdv, ct, osl, rfl, lk, hcd⟩ := F.ex
  have e0 : Env0 X.prog X.w X.K X.mg X.base X.A.in1.in1 X.stack s H := I.env0.in1.in1
  have lim : s.heap.NoLimit := e0.mod.nolimit.keeps fun b o e => (e0.bs b o e).1
  have hkind : ∀ y ∈ [p0].zip [Value.ref a], (defScope st).names.lookup y.1 = some .local ∨ ((defScope st).names.lookup y.1 = some .cell ∧ ((cellsFrom (s.heap.objs.size + 1) (defScope st).names []).lookup y.1).isSome = true) := fun y hy => by
    have hy : y ∈ [(p0, Value.ref a)] := hy
    rw [List.mem_singleton.mp hy]
    exact .inl hl
  refine wpAny_call (codeAny_mono (R := fun r s' => match r with | .ok (.ret u) => PySem.W.KeyPure (.str z) s u s' | _ => False) ?_ fun r s' hq => ?_)
  · refine codeAny_call_function hr.depth (I.kIn _ _ lk) rfl S.co S.gen rfl (PySem.W.codeRec_of I.kIn hcd) (hb s [.ref a] I.kIn rfl _ _ _ _ ?_)
    refine wpAny_newFunctionEnv_cells S.kind hkind fun env he s1 x => ?_
    subst he
    refine ⟨lim.keeps x.toInCall.keep, codeAny_func ?_⟩
    have J := inv_start (CX := CX0) (E := E0) S (show X.A.in1.in1.handled = none from hr.hd) e0 (vs := [V.ref a]) rfl (.cons rfl .nil) x
    obtain ⟨h1, tk, rfl, kp⟩ := x.done
    show wpAny _ _ (execs (defBody st) _) _ _ _
    rw [body]
    refine wpAny_execs_cons (wpAny_Return_some (attr_of rfl ?_))
    obtain ⟨m, hn, hlk⟩ := J.loc
    obtain ⟨u, ru, lo⟩ := hlk 0 p0 (V.ref a) hN (by rfl) hv
    obtain rfl : u = Value.ref a := ru
    have fin : wpAny (model X.prog X.w) (X.A.in1.in1.deeper (envOfC qual (defScope st) s.heap.objs.size f cdv)) (getAttr (.ref a) fld true) (fun v s' => PySem.W.KeyPure (.str z) s v s') (fun _ _ => False) { s with heap := h1, toks := tk } := by
      obtain ⟨mA, O, r, _, _, _⟩ := ins_get J.hok e
      obtain ⟨u, hu, ru⟩ := RelO.some_of (v := V.str z) (o := mA fld) (by rw [← l]; exact r fld)
      obtain ⟨t, rfl⟩ := ru
      exact get_map J.kIn O (c.get fld) c.hd n hu (handed_of (show RelV (V.str z) _ from ⟨t, rfl⟩)) ⟨h1, _, rfl, kp, .str z t⟩
    rcases lo with ⟨hk, hm⟩ | ⟨hk, c1, hc, hcell⟩
    · refine wpAny_Name (wpAny_loadName_local J.ok.kind hk hn hm ?_) hd
      exact wpAny_mono fin (fun v s2 h => h) (fun _ _ h => h.elim)
    · exfalso
      have : (envOfC qual (defScope st) s.heap.objs.size f cdv).kindOf p0 = some .local := hl
      rcases hk with hk | hk
      · exact nomatch this.symm.trans hk
      · exact nomatch this.symm.trans hk
  · cases r with
    | error e => exact hq.elim
    | ok fl => cases fl with
      | ret u => exact hq
      | next => exact hq.elim
      | brk => exact hq.elim
      | cont => exact hq.elim
abbrev leN (y z : Str) : Bool := PySem.W.dataLe false PyData.str y z
/-- sorted(xs, key=g), g tells the attribute fld of its argument -/
def rSortA (K : PySem.W.Frag) (f : Addr) (fld : Str) : List V → List V → Hp → VK → Prop := fun vs zs H Q => ∃ (a : Addr) (bs : List (V × Str)), vs = [V.ref a] ∧ zs = [V.ref f] ∧ SqL K H a (bs.map (·.1)) ∧ bs.length < 1000 ∧
  (∀ b ∈ bs, ∃ q C dx fs, b.1 = V.ref q ∧ H q = some (.ins C dx fs) ∧ Cls K C ∧ NoAttr K C fld ∧ fs.lookup fld = some (V.str b.2)) ∧
  ∀ p, H p = none → Q (.ref p) (upd H p (.lst ((bs.mergeSort fun x y => leN x.2 y.2).map (·.1))))
theorem each_of : ∀ {bs : List (V × Str)} {its : List Value}, Vals (bs.map (·.1)) its → PySem.W.EachIs (fun v (b : V × Str) => RelV b.1 v) its bs
  | [], [], _ => .nil
  | [], _ :: _, h => by cases h
  | _ :: _, [], h => by cases h
  | b :: bs, v :: its, h => by
    cases h with
    | cons h1 h2 => exact .cons h1 (each_of h2)
theorem of_each : ∀ {bs : List (V × Str)} {its : List Value}, PySem.W.EachIs (fun v (b : V × Str) => RelV b.1 v) its bs → Vals (bs.map (·.1)) its
  | [], [], _ => .nil
  | [], _ :: _, h => by cases h
  | _ :: _, [], h => by cases h
  | b :: bs, v :: its, h => by
    cases h with
    | cons h1 h2 => exact .cons h1 (of_each h2)
theorem cr_sortA {X : Cx} {k : Nat} {nm qual p0 fld : Str} {st : Stmt} {f : Addr} {fd : FuncData} {N : List Str} {q1 q2 q3 : Pos} (F : Fun X.K nm qual st f fd) (S : FnScope N [p0] (defScope st)) (hb : Binds X.K fd [p0] [])
    (body : defBody st = [.Return (some (.Attribute (.Name p0 q1) fld q2)) q3]) (hN : N[0]? = some p0) (hd : (p0 == ("__debug__" : Str)) = false) (hl : (defScope st).names.lookup p0 = some .local) (hr : Room k X.A) : CallRK X (.builtin "sorted") [Str.ofString "key"] (rSortA X.K f fld) := by
  rintro pins s σ H vs zs us ws Q I r rz ⟨a, bs, rfl, rfl, hs, hlen, hbs, q⟩
  obtain ⟨its, rv, hL, hz⟩ := I.list hs
  rw [Vals.ref1 r]
  obtain rfl : ws = [.ref f] := Vals.ref1 rz
  have hz : bs.length ≤ sizeLine := by rw [sizeLine_eq]; omega
  refine PySem.W.sorted_key_data (b := false) (fun b : V × Str => PyData.str b.2) hL.isList (each_of rv) (PySem.W.AllAlike.of fun _ _ => by simp [PySem.W.alike]) (PySem.W.Sortable.others fun _ => ⟨by simp, by simp⟩) hz (fun b _ => ?_) (ksk_s1 _ _) (fun _ => ksk_l1 _ _) (fun _ => ksk_t1 _ _)
    (fun v b hR hm h tk kp => ?_) (fun out c h' tk kp fresh hD hlo he => ?_)
  · have hd : (PyData.str b.2).depth = 0 := by simp [PyData.depth]
    have := hr.un
    omega
  · obtain ⟨q, C, dx, fs, e1, e2, hc, hn, hl2⟩ := hbs b hm
    rw [e1] at hR
    obtain rfl : v = Value.ref q := hR
    exact key_run F S hb body hN hd hl (.inl hl) (fun _ => rfl) (I.kept (t' := tk) kp) hr e2 hc hn hl2
  · have hl2 : ((bs.mergeSort fun x y => leN x.2 y.2).map (·.1)).length ≤ sizeLine := by rw [List.length_map, List.length_mergeSort]; exact hz
    exact ⟨.ref _, upd H (s.heap.objs.size + 1) (.lst _), I.laid (t' := tk) (fun b o e => kp b o e) (Nat.le_succ _) ⟨hl2, out, c, of_each he, hD⟩, rfl, q _ (I.hok.fresh (Nat.le_succ _))⟩
theorem all2_zip {α : Type} {r : V → α → Prop} : ∀ {vs : List V} {xs : List α}, All2 r vs xs → (vs.zip xs).map (·.1) = vs ∧ (vs.zip xs).map (·.2) = xs ∧ ∀ p ∈ vs.zip xs, r p.1 p.2
  | [], [], _ => ⟨rfl, rfl, fun p m => nomatch m⟩
  | [], _ :: _, h => h.elim
  | _ :: _, [], h => h.elim
  | v :: vs, x :: xs, h => by
    obtain ⟨h1, h2, h3⟩ := all2_zip h.2
    refine ⟨by rw [List.zip_cons_cons, List.map_cons, h1], by rw [List.zip_cons_cons, List.map_cons, h2], fun p m => ?_⟩
    rw [List.zip_cons_cons] at m
    rcases List.mem_cons.mp m with rfl | m
    · exact h.1
    · exact h3 p m
section
variable {α : Type} {W : Wd} {K : PySem.W.Frag} {ta tf : TE} {xs : List α} {n : α → Str} {C f : Addr} {flds : α → List (Str × SF)} {fld : Str}
theorem ev_sortA (m : Nat) (h : Ev W ta (tLs K (tOb C flds)) xs) (hf : Ev W tf tRf f) (cl : Cls K C) (na : NoAttr K C fld) (e : ∀ x, (flds x)[m]? = some (fld, tSt.is (n x))) (hl : xs.length < 1000) :
    Ev W (tCKw (rSortA K f fld) (tCons ta tNil) (tCons tf tNil)) (tLs K (tOb C flds)) (xs.mergeSort fun x y => leN (n x) (n y)) := fun σ H o Q q => h σ H o _ fun v H1 g1 ⟨p, vs, ev, s, al⟩ => hf σ H1 g1.ok _ fun w H2 g2 r2 => by
  obtain rfl : w = V.ref f := r2
  subst ev
  obtain ⟨z1, z2, z3⟩ := all2_zip (All2.mono (fun _ _ => (tOb C flds).mono g2.up) al)
  have hmap : ((vs.zip xs).map fun p => (p.1, n p.2)).map (·.1) = vs := by rw [List.map_map]; exact z1
  have hv : (((vs.zip xs).map fun p => (p.1, n p.2)).mergeSort fun x y => leN x.2 y.2) = ((vs.zip xs).mergeSort fun x y => leN (n x.2) (n y.2)).map fun p => (p.1, n p.2) := (List.map_mergeSort (f := fun p : V × α => (p.1, n p.2)) (r := fun x y => leN (n x.2) (n y.2)) (s := fun x y : V × Str => leN x.2 y.2) (l := vs.zip xs) (fun _ _ _ _ => rfl)).symm
  have hx : xs.mergeSort (fun x y => leN (n x) (n y)) = ((vs.zip xs).mergeSort fun x y => leN (n x.2) (n y.2)).map (·.2) := by
    rw [List.map_mergeSort (f := fun p : V × α => p.2) (r := fun x y => leN (n x.2) (n y.2)) (s := fun x y => leN (n x) (n y)) (l := vs.zip xs) (fun _ _ _ _ => rfl), z2]
  refine ⟨p, (vs.zip xs).map fun p => (p.1, n p.2), rfl, rfl, ?_, ?_, fun b mb => ?_, fun l nl => q _ _ ((g1.trans g2).trans (g2.ok.new nl)) ⟨l, _, rfl, by rw [hid_of (g2.ok.off nl)]; exact upd_same, ?_⟩⟩
  · rw [hmap]
    exact SqL.of (hid_sub _ _ (g2.up _ _ s))
  · rw [List.length_map, List.length_zip]
    omega
  · obtain ⟨q, mq, rfl⟩ := List.mem_map.mp mb
    obtain ⟨a, dx, fs, e1, e2, k⟩ := z3 q mq
    obtain ⟨u, h1, h2⟩ := k fld _ (List.mem_of_getElem? (e q.2))
    exact ⟨a, C, dx, fs, e1, hid_sub _ _ e2, cl, na, by rw [h1, show u = V.str (n q.2) from h2]⟩
  · rw [hv, hx, List.map_map]
    refine all2_tags (rel := (tOb C flds).r _) (vxs := (vs.zip xs).mergeSort fun x y => leN (n x.2) (n y.2)) fun q mq => ?_
    exact (tOb C flds).mono (g2.ok.new nl).up (z3 q (List.mem_mergeSort.mp mq))
end
end Cs
set_option maxHeartbeats 4000000
namespace Cs
open PySem PySem.Spec PyProof.Rows L2 GenW
/-! ### any, all of a generator expression of any element (own defs called, things changed) -/
section
variable {X : Cx} {pins : List (Addr × Obj)} {σ : L2.St} {H : Hp} {s : Shared}
/-- a generator expression's names: its own ahead, then the captured ones with their places in the def -/
structure GxS (N : List Str) (sc scope : Scope) (own : List Str) (fr : List (Str × Nat)) : Prop where
  kind : scope.kind = .function
  co : scope.isCoroutine = false
  cell : ∀ y ∈ scope.names, y.2 ≠ .cell
  dot : scope.names.lookup (".0" : Str) = some NameKind.local
  loc : ∀ x ∈ own, scope.names.lookup x = some .local
  cap : ∀ p ∈ fr, scope.names.lookup p.1 = some .free ∧ N[p.2]? = some p.1
  free : ∀ y ∈ scope.names, y.2 = .free → sc.names.lookup y.1 = some .cell ∨ sc.names.lookup y.1 = some .free
  uniq : ∀ y ∈ scope.names, scope.names.lookup y.1 = some y.2
def gxN (own : List Str) (fr : List (Str × Nat)) : List Str := own ++ fr.map (·.1)
def gxσ (own : List Str) (fr : List (Str × Nat)) (σ : L2.St) : L2.St := own.map (fun _ => none) ++ fr.map (fun p => (σ[p.2]?).getD none)
abbrev gxc (X : Cx) (NG : List Str) (s : Shared) (H : Hp) (cenv : Env) (fp : List Addr) (pn : List (Addr × Obj)) : Cx :=
  { X with A := X.A.in1.in1.deeper cenv, N := NG, s_0 := s, H_0 := H, env := cenv, outer := X.stack, stack := cenv :: X.stack, ex := fp, fn := fun _ => false, pn := pn, xe := fun _ _ => False }
theorem gx_start {own : List Str} {fr : List (Str × Nat)} {scope : Scope} {fp : List Addr} {pn : List (Addr × Obj)} {code : Value} {s' : Shared} (S : GxS X.N X.env.scope scope own fr) (hc : X.calm = true) (I : Inv X pins σ H s)
    (hfp : ∀ b ∈ fp, FpOk X pins H b ∧ b < s.heap.objs.size) (os : s'.os = s.os) (bare : AllBare s'.gens) (kp : ∀ b o, s.heap.get? b = some o → s'.heap.get? b = some o) (ns : ∃ m, s'.heap.Ns s.heap.objs.size m)
    (hpn : ∀ p ∈ pn, s'.heap.get? p.1 = some p.2 ∧ s.heap.objs.size < p.1 ∧ ∀ v, p.2.data ≠ .cell v) :
    Inv (gxc X (gxN own fr) s H (genEnv scope (cloFrom X.env.cells scope.names []) s.heap.objs.size code builtinsNs X.env) fp pn) [] (gxσ own fr σ) H s' := by
  have hfree : ∀ y ∈ scope.names, y.2 = .free → ∃ c, X.env.cells.lookup y.1 = some c := fun y hy e => by
    rcases S.free y hy e with k | k
    · exact I.ok.has _ (.inl k)
    · exact I.ok.has _ (.inr k)
  generalize hcenv : genEnv scope (cloFrom X.env.cells scope.names []) s.heap.objs.size code builtinsNs X.env = cenv
  have hL : cenv.locals = s.heap.objs.size := by rw [← hcenv]; rfl
  have hcl : cenv.cells = cloFrom X.env.cells scope.names [] := by rw [← hcenv]; rfl
  have hsc : cenv.scope = scope := by rw [← hcenv]; rfl
  have mem : ∀ {y c}, cenv.cells.lookup y = some c → X.env.cells.lookup y = some c ∧ c < s.heap.objs.size ∧ scope.names.lookup y = some .free := fun {y c} e => by
    rw [hcl] at e
    rcases cloFrom_mem (PySem.mem_of_lookup e) with hm | ⟨h1, h2⟩
    · cases hm
    · obtain ⟨c', hc'⟩ := hfree _ h1 rfl
      have hc' : X.env.cells.lookup y = some c' := hc'
      rw [hc'] at h2
      have : c = c' := h2
      subst this
      obtain ⟨v, z⟩ := I.cell _ _ hc'
      exact ⟨hc', z.lt, S.uniq _ h1⟩
  have look : ∀ {y}, scope.names.lookup y = some .free → ∃ c, cenv.cells.lookup y = some c ∧ X.env.cells.lookup y = some c := fun {y} hl => by
    obtain ⟨c', e'⟩ := mem_lookup (cloFrom_has (cells := X.env.cells) (acc := []) (PySem.mem_of_lookup hl))
    rw [← hcl] at e'
    exact ⟨c', e', (mem e').1⟩
  have okB : (gxc X (gxN own fr) s H cenv fp pn).Ok := by
    refine ⟨I.ok.mod, by show cenv.scope.kind = _; rw [hsc]; exact S.kind, by show cenv.globals = _; rw [← hcenv]; exact I.ok.glob, by show cenv.builtins = _; rw [← hcenv]; rfl, by show s.heap.objs.size ≤ cenv.locals; rw [hL]; exact Nat.le_refl _,
      fun y z c e1 e2 => ?_, fun y hy => ?_, fun y c z e => (by cases z), fun _ => I.ok.hd hc, Around.frames_deeper I.ok.frames, .inr ⟨rfl, by show cenv.frame = some cenv.locals; rw [← hcenv]; rfl⟩, fun b hb => ⟨?_, fun y c e z => ?_⟩, I.bs, Nat.le_trans I.ok.bsz I.sz, fun b o e hb => ?_, fun b hb z => ?_, I.stack, I.stkFree⟩
    · exact I.ok.inj y z c (mem e1).1 (mem e2).1
    · rcases hy with hy | hy
      · have hy : cenv.scope.names.lookup y = some .cell := hy
        rw [hsc] at hy
        exact absurd rfl (S.cell _ (PySem.mem_of_lookup hy))
      · have hy : cenv.scope.names.lookup y = some .free := hy
        rw [hsc] at hy
        obtain ⟨c, h1, _⟩ := look hy
        exact ⟨c, h1⟩
    · show b ≠ cenv.locals
      rw [hL]; exact Nat.ne_of_lt (hfp b hb).2
    · exact (hfp b hb).1.2.2.2.2.1 y c (mem e).1 z
    · rcases (hfp b hb).1.2.2.2.1 with z | z
      · exact I.ok.noex b o e z
      · exact absurd (Nat.lt_of_lt_of_le (Heap.lt_size e) (Nat.le_trans I.ok.bsz z)) (Nat.lt_irrefl _)
    · rcases List.mem_cons.mp (I.stkSub b z) with z | z
      · exact (hfp b hb).1.2.1 z
      · exact (hfp b hb).1.2.2.1 z
  obtain ⟨m, hm⟩ := ns
  refine ⟨okB, os, bare, Un.kept kp, ⟨m, by show Heap.Ns _ cenv.locals _; rw [hL]; exact hm, fun i y av e1 e2 e3 => ?_⟩, fun y c e => ?_, by show H cenv.locals = none; rw [hL]; exact I.hok.fresh (Nat.le_refl _), fun y c e => I.freeC y c (mem e).1, fun p hp => ?_, I.hok.kept kp, by show (gxσ own fr σ).length = (gxN own fr).length; simp [gxσ, gxN]⟩
  · have e1 : (gxN own fr)[i]? = some y := e1
    unfold gxσ at e2
    unfold gxN at e1
    by_cases hi : i < own.length
    · rw [List.getElem?_append_left (by simpa using hi), List.getElem?_map, List.getElem?_eq_getElem hi] at e2
      cases e2
    · rw [List.getElem?_append_right (by simpa using Nat.le_of_not_lt hi), List.getElem?_map] at e1
      rw [List.getElem?_append_right (by simpa using Nat.le_of_not_lt hi), List.getElem?_map, List.length_map] at e2
      cases hp : fr[i - own.length]? with
      | none => rw [hp] at e1; cases e1
      | some p =>
        rw [hp] at e1 e2
        have ey : p.1 = y := Option.some.inj e1
        obtain ⟨f1, f2⟩ := S.cap p (List.mem_of_getElem? hp)
        have e2 : (σ[p.2]?).getD none = some av := Option.some.inj e2
        have e2' : σ[p.2]? = some (some av) := by
          cases q : σ[p.2]? with
          | none => rw [q] at e2; cases e2
          | some z => rw [q] at e2; rw [show z = some av from e2]
        rw [ey] at f1 f2
        have hvis : Vis X.env.scope y := (S.free _ (PySem.mem_of_lookup f1) rfl).elim (fun k => .inr (.inl k)) (fun k => .inr (.inr k))
        obtain ⟨m', hn, hl⟩ := I.loc
        obtain ⟨u, r, q⟩ := hl p.2 y av f2 e2' hvis
        refine ⟨u, r, .inr ⟨.inr (by show cenv.scope.names.lookup y = _; rw [hsc]; exact f1), ?_⟩⟩
        obtain ⟨c, h1, h2⟩ := look f1
        rcases q with ⟨k, _⟩ | ⟨_, c', e', z⟩
        · have k : X.env.scope.names.lookup y = some .local := k
          rcases S.free _ (PySem.mem_of_lookup f1) rfl with k' | k' <;> rw [show X.env.scope.names.lookup y = _ from k'] at k <;> cases k
        · rw [h2] at e'; cases e'
          exact ⟨c, h1, z.keeps kp⟩
  · obtain ⟨h1, _, _⟩ := mem e
    obtain ⟨v, z⟩ := I.cell y c h1
    exact ⟨v, z.keeps kp⟩
  · have hp : p ∈ pn := by simpa using hp
    obtain ⟨h1, h2, h3⟩ := hpn p hp
    refine ⟨h1, I.hok.fresh (Nat.le_of_lt h2), by show p.1 ≠ cenv.locals; rw [hL]; exact Nat.ne_of_gt h2, fun z => ?_, h3⟩
    obtain ⟨_, o, ho, _⟩ := I.stack.mem z
    exact absurd (Nat.lt_trans h2 (Heap.lt_size ho)) (Nat.lt_irrefl _)
/-- other generators -/
theorem Inv.gens' {G : Array GenState} (I : Inv X pins σ H s) (h : AllBare G) : Inv X pins σ H { s with gens := G } := ⟨I.ok, I.os, h, I.base, I.loc, I.cell, I.free, I.freeC, I.pin, I.hok, I.len⟩
end
/-- asleep: all is as it was but the table of generators -/
structure Woke (s s' : Shared) : Prop where
  heap : s'.heap = s.heap
  os : s'.os = s.os
  bare : AllBare s'.gens
theorem Woke.inv {X : Cx} {pins : List (Addr × Obj)} {σ : L2.St} {H : Hp} {s s' : Shared} (I : Inv X pins σ H s) (z : Woke s s') : Inv X pins σ H s' := by
  obtain ⟨h, g, d, t, o⟩ := s'
  obtain ⟨e1, e2, e3⟩ := z
  have e1 : h = s.heap := e1
  have e2 : o = s.os := e2
  subst e1 e2
  exact I.call' (ch := []) rfl Un.refl I.hok e3 fun b z => by cases z
def RX (F : Bool → Shared → Prop) (sv : Bool) : GenEnd := fun n s₀ r s₁ => ((r = .ok (.ret .none) ∨ r = .ok .next) ∧ F (!sv) s₁) ∨ ∃ e, r = .error e ∧ False
def YX (F : Bool → Shared → Prop) (sv : Bool) (a : Addr) (g : Nat) : Protocol := fun n s₀ v s₁ kap =>
  ∃ b, v = .bool b ∧ AllBare s₁.gens ∧ s₁.heap.NoLimit ∧ s₁.heap.IsGen a g ∧ (b = sv → F sv s₁) ∧ (b ≠ sv → ∀ s', Woke s₁ s' → kap (.send .none) s')
theorem over_gxLoop {A : Around} {elt tg iter : Expr} {ifs : List Expr} {scope : Scope} {pos : Pos} {it acc : Value} {env : Env} : A.over (.compLoop (.GeneratorExp elt [⟨tg, iter, ifs, 0⟩] scope pos) 0 it acc env) [] = A.deeper env := by
  first
    | rfl
    | (obtain ⟨hd, d, fr, gs, u⟩ := A; simp [Around.over, Around.deeper, marksOver, frameCount, unitsOf, envsOf, guardsOf, pushEnvs, pushGuards, Code.envs, Code.env?, Code.isFrame, Code.guards, Code.isGuard, Code.weight, Code.frames, Code.isCreation, Code.isCaller, Code.cUnits])
theorem over_gxStart {A : Around} {elt tg iter : Expr} {ifs : List Expr} {scope : Scope} {pos : Pos} {it acc : Value} {env : Env} : A.over (.compStart (.GeneratorExp elt [⟨tg, iter, ifs, 0⟩] scope pos) 0 it acc env) [] = A.deeper env := by
  first
    | rfl
    | (obtain ⟨hd, d, fr, gs, u⟩ := A; simp [Around.over, Around.deeper, marksOver, frameCount, unitsOf, envsOf, guardsOf, pushEnvs, pushGuards, Code.envs, Code.env?, Code.isFrame, Code.guards, Code.isGuard, Code.weight, Code.frames, Code.isCreation, Code.isCaller, Code.cUnits])
section
variable {Xg : Cx} {A : Around} {elt tg iter : Expr} {ifs : List Expr} {scope : Scope} {pos : Pos} {it a : Addr} {gn : Nat} {J : It} {fp : List Addr} {tn : Nat → Heap → Prop} {g : TG} {tt : TT} {te : TE} {sv : Bool} {σ0 : L2.St} {W : Nat → Nat → Hp → Prop} {Qe : Bool → Hp → Prop} {own : List Nat}
/-- what the turns want -/
def GxTurn (J : It) (g : TG) (tt : TT) (te : TE) (sv : Bool) (σ0 : L2.St) (own : List Nat) (Qe : Bool → Hp → Prop) (W : Nat → Nat → Hp → Prop) : Prop := ∀ i m H, W i m H → (J.stop i H ∧ Qe (!sv) H) ∨ (J.go i H ∧ ∃ Nx : Hp → Prop, (∀ H', Nx H' → ∃ m', m' < m ∧ W (i + 1) m' H') ∧
  ∀ x H', J.yld i H x H' → g x σ0 H' fun σ2 H2 => wipe σ2 own = σ0 ∧ tt σ2 H2 fun b H3 => if b = true then te σ2 H3 fun y H4 => ∃ c, y = .bl c ∧ (if c = sv then Qe sv H4 else Nx H4) else Nx H3)
def GxF (Xg : Cx) (Qe : Bool → Hp → Prop) (b : Bool) (s : Shared) : Prop := ∃ σ' H', Inv Xg [] σ' H' s ∧ Qe b H'
theorem seg_gx (hA : Xg.A = A.deeper Xg.env) (hcalm : Xg.calm = true) (hco : Xg.env.scope.isCoroutine = false) (hex : Xg.ex = fp) (hxe : Xg.xe = fun _ _ => False) (T : Turn Xg.prog Xg.w Xg.K tg J fp it tn) (pg : PG Xg tg g) (pt : PTs Xg ifs tt) (pe : PE Xg elt te)
    (hpn : ∀ b ∈ fp, ∀ p ∈ Xg.pn, p.1 ≠ b) (hgen : ∀ pins σ H s, Inv Xg pins σ H s → s.heap.IsGen a gn) (turn : GxTurn J g tt te sv σ0 own Qe W) :
    ∀ (m n i : Nat) (s₀ s : Shared) (H : Hp), m < n → Inv Xg [] σ0 H s → tn i s.heap → (∀ b ∈ fp, H b = none) → W i m H →
      Seg (model Xg.prog Xg.w) A (RX (GxF Xg Qe) sv) (YX (GxF Xg Qe) sv a gn) n s₀ (.compLoop (.GeneratorExp elt [⟨tg, iter, ifs, 0⟩] scope pos) 0 (.ref it) .none Xg.env)
        ((model Xg.prog Xg.w).den (.compLoop (.GeneratorExp elt [⟨tg, iter, ifs, 0⟩] scope pos) 0 (.ref it) .none Xg.env)) [] s := by
  have cv : ∀ {α : Type} {t : Sem α} {Q : α → Shared → Prop} {s : Shared}, wpAny (model Xg.prog Xg.w) Xg.A t Q Xg.xe s → wpAny (model Xg.prog Xg.w) Xg.A t Q (fun _ _ => False) s := fun h => by rw [hxe] at h; exact h
  have stat : ∀ {σ' : L2.St} {H' : Hp} {s' : Shared}, Inv Xg [] σ' H' s' → (∀ b ∈ fp, H' b = none) → ∀ b ∈ fp, FpOk Xg [] H' b := fun {σ' H' s'} I' hn b hb =>
    ⟨hn b hb, (I'.ok.exf b (hex ▸ hb)).1, I'.ok.exfs b (hex ▸ hb), .inl (hex ▸ hb), fun x c e => (I'.ok.exf b (hex ▸ hb)).2 x c e, fun p hp => hpn b hb p (by simpa using hp)⟩
  intro m
  induction m using Nat.strongRecOn with
  | ind m ih =>
    intro n i s₀ s H hmn I st hn w
    show Seg _ A _ _ _ s₀ _ ((compTurn (.GeneratorExp elt [⟨tg, iter, ifs, 0⟩] scope pos) 0 (.ref it) .none Xg.env).onRaise (leaving Xg.env)) [] s
    rw [compTurn_gen, Sem.onRaise_eq_wrap]
    refine seg_bind_wrap (wpAny_standAt ?_)
    rcases turn i m H w with ⟨stop, q⟩ | ⟨go, Nx, hNx, step⟩
    · have td := T.done Xg rfl rfl rfl hcalm i [] s _ H (fun _ _ => False) I (stat I hn) st stop
      refine seg_bind_wrap ?_
      rw [over_gxLoop, ← hA]
      refine thnF td fun r s6 ⟨hr, I6⟩ => ?_
      subst hr
      exact seg_end (.ok .next) (.inl ⟨.inr rfl, σ0, H, I6, q⟩)
    · have ti := T.item Xg rfl rfl rfl hcalm i [] s _ H (fun _ _ => False) I (stat I hn) st go
      refine seg_bind_wrap ?_
      rw [over_gxLoop, ← hA]
      refine thnF ti fun r s6 ⟨u, hr, h6⟩ => ?_
      subst hr
      refine seg_bind_wrap ?_
      rw [over_gxLoop, ← hA]
      refine thnF h6 fun _ s7 ⟨x, H7, I7, r7, y7, st7, n7⟩ => ?_
      have I7' := I7.pinned (stat I7 n7) (T.obj _ _ st7)
      refine seg_bind_wrap ?_
      rw [over_gxLoop, ← hA]
      refine thnF (cv (pg.run _ s7 _ H7 x u _ I7' r7 (step x H7 y7))) fun _ s8 ⟨σ8, H8, I8, hw8, q8⟩ => ?_
      refine seg_bind_wrap ?_
      rw [over_gxLoop, ← hA]
      refine thnF (cv (pt.run _ s8 σ8 H8 _ I8 q8)) fun b s9 ⟨H9, I9, q9⟩ => ?_
      have fin : ∀ {s' s'' : Shared} {H' : Hp}, Inv Xg ([] ++ pinsAt fp s7.heap) σ8 H' s' → Woke s' s'' → Nx H' → ∀ n', m ≤ n' → Seg (model Xg.prog Xg.w) A (RX (GxF Xg Qe) sv) (YX (GxF Xg Qe) sv a gn) n' s'' (.compLoop (.GeneratorExp elt [⟨tg, iter, ifs, 0⟩] scope pos) 0 (.ref it) .none Xg.env)
        ((model Xg.prog Xg.w).den (.compLoop (.GeneratorExp elt [⟨tg, iter, ifs, 0⟩] scope pos) 0 (.ref it) .none Xg.env)) [] s'' := fun {s' s'' H'} I' z nx n' hn' => by
        obtain ⟨m', hm, w'⟩ := hNx H' nx
        have pin' : ∀ b ∈ fp, ∀ o, s7.heap.get? b = some o → s'.heap.get? b = some o ∧ H' b = none := fun b hb o e =>
          let z := I'.pin (b, o) (List.mem_append_right _ (List.mem_append_right _ (mem_pinsAt hb e)))
          ⟨z.1, z.2.1⟩
        have hl : σ0.length = σ8.length := by rw [← hw8, wipe_length]
        have I2 : Inv Xg [] σ0 H' s' := (I'.unpinned (pins := [])).weak hl (fun j v e => by rw [← hw8] at e; exact (wipe_some e).1)
        refine ih m' hm n' (i + 1) s'' s'' H' (by omega) (Woke.inv I2 z) (by rw [z.heap]; exact T.keep _ _ _ st7 fun b hb o e => (pin' b hb o e).1) (fun b hb => ?_) w'
        obtain ⟨o, e, _⟩ := T.obj _ _ st7 b hb
        exact (pin' b hb o e).2
      have fin0 : ∀ {s' : Shared} {H' : Hp}, Inv Xg ([] ++ pinsAt fp s7.heap) σ8 H' s' → Nx H' → Seg (model Xg.prog Xg.w) A (RX (GxF Xg Qe) sv) (YX (GxF Xg Qe) sv a gn) n s₀ (.compLoop (.GeneratorExp elt [⟨tg, iter, ifs, 0⟩] scope pos) 0 (.ref it) .none Xg.env)
        ((model Xg.prog Xg.w).den (.compLoop (.GeneratorExp elt [⟨tg, iter, ifs, 0⟩] scope pos) 0 (.ref it) .none Xg.env)) [] s' := fun {s' H'} I' nx => by
        obtain ⟨m', hm, w'⟩ := hNx H' nx
        have pin' : ∀ b ∈ fp, ∀ o, s7.heap.get? b = some o → s'.heap.get? b = some o ∧ H' b = none := fun b hb o e =>
          let z := I'.pin (b, o) (List.mem_append_right _ (List.mem_append_right _ (mem_pinsAt hb e)))
          ⟨z.1, z.2.1⟩
        have hl : σ0.length = σ8.length := by rw [← hw8, wipe_length]
        have I2 : Inv Xg [] σ0 H' s' := (I'.unpinned (pins := [])).weak hl (fun j v e => by rw [← hw8] at e; exact (wipe_some e).1)
        refine ih m' hm n (i + 1) s₀ s' H' (by omega) I2 (T.keep _ _ _ st7 fun b hb o e => (pin' b hb o e).1) (fun b hb => ?_) w'
        obtain ⟨o, e, _⟩ := T.obj _ _ st7 b hb
        exact (pin' b hb o e).2
      cases b with
      | false =>
        simp only [Bool.false_eq_true, if_false] at q9 ⊢
        exact seg_again rfl (fin0 I9 q9)
      | true =>
        simp only [if_true] at q9 ⊢
        have hy : ∀ v, yieldOut Xg.env v = yieldValue v := fun v => by simp only [yieldOut, hco, Bool.false_eq_true, if_false]
        simp only [hy]
        rw [Sem.bind_eq_wrap', Sem.bind_eq_wrap', Sem.wrap_wrap, Sem.wrap_wrap]
        obtain ⟨n', rfl⟩ : ∃ n', n = n' + 1 := ⟨n - 1, by omega⟩
        refine seg_wrap ?_
        rw [over_gxLoop, ← hA]
        refine thnF (cv (pe.run _ s9 σ8 H9 _ I9 q9)) fun z s10 ⟨yv, H10, I10, r10, c, ey, qc⟩ => ?_
        subst ey
        obtain rfl : z = .bool c := r10
        refine seg_at (seg_yield rfl rfl rfl ?_)
        refine ⟨c, rfl, I10.bare, I10.nolimit, hgen _ _ _ _ I10, fun e => ?_, fun e s'' zz => ?_⟩
        · rw [if_pos e] at qc
          exact ⟨σ8, H10, I10.unpinned, qc⟩
        · rw [if_neg e] at qc
          exact seg_again rfl (fin I10 zz qc n' (by omega))
theorem seg_gxStart (hA : Xg.A = A.deeper Xg.env) (hcalm : Xg.calm = true) (hco : Xg.env.scope.isCoroutine = false) (hex : Xg.ex = fp) (hxe : Xg.xe = fun _ _ => False) (T : Turn Xg.prog Xg.w Xg.K tg J fp it tn) (pg : PG Xg tg g) (pt : PTs Xg ifs tt) (pe : PE Xg elt te)
    (hpn : ∀ b ∈ fp, ∀ p ∈ Xg.pn, p.1 ≠ b) (hgen : ∀ pins σ H s, Inv Xg pins σ H s → s.heap.IsGen a gn) (turn : GxTurn J g tt te sv σ0 own Qe W) {m n : Nat} {s₀ s : Shared} {H : Hp} (hmn : m < n) (I : Inv Xg [] σ0 H s) (st : tn 0 s.heap) (hn : ∀ b ∈ fp, H b = none) (w : W 0 m H) :
    Seg (model Xg.prog Xg.w) A (RX (GxF Xg Qe) sv) (YX (GxF Xg Qe) sv a gn) n s₀ (.compStart (.GeneratorExp elt [⟨tg, iter, ifs, 0⟩] scope pos) 0 (.ref it) .none Xg.env)
      ((model Xg.prog Xg.w).den (.compStart (.GeneratorExp elt [⟨tg, iter, ifs, 0⟩] scope pos) 0 (.ref it) .none Xg.env)) [] s := by
  have loop := seg_gx (iter := iter) (scope := scope) (pos := pos) hA hcalm hco hex hxe T pg pt pe hpn hgen turn m n 0 s₀ s H hmn I st hn w
  show Seg _ A _ _ _ s₀ _ ((compStart (.GeneratorExp elt [⟨tg, iter, ifs, 0⟩] scope pos) 0 (.ref it) .none Xg.env).onRaise (leaving Xg.env)) [] s
  unfold compStart
  rw [Sem.onRaise_eq_wrap]
  show Seg _ A _ _ _ s₀ _ ((ask >>= _).wrap _ _ _ _) [] s
  refine seg_bind_wrap (wpAny_askSetting ?_)
  split
  · exact seg_again rfl loop
  · first
      | exact seg_bind_wrap (wpAny_rule (seg_bind_wrap (wpAny_standAt (seg_bind_wrap (T.self _ 0 s _ _ st (seg_again rfl loop))))))
      | (refine seg_bind_wrap (wpAny_rule ?_); show Seg _ A _ _ _ s₀ _ ((standAt iter.pos >>= _).wrap _ _ _ _) [] s; exact seg_bind_wrap (wpAny_standAt (seg_bind_wrap (T.self _ 0 s _ _ st (seg_again rfl loop)))))
end
/-! ### the consumers -/
section
variable {P : Program} {w : World} {A : Around} {F : Bool → Shared → Prop} {a : Addr} {gn : Nat} {Res : Result → Shared → Prop}
theorem loop_all (hh : A.handled = none) (hd : A.depth < recursionLimit) (hFg : ∀ b s G, F b s → AllBare G → F b { s with gens := G }) (hFk : ∀ b (s : Shared) h', F b s → (∀ b o, s.heap.get? b = some o → h'.get? b = some o) → F b { s with heap := h' }) (hFb : ∀ b s, F b s → AllBare s.gens)
    (hR : ∀ b s, F b s → Res (.ok (.ret (.bool b))) s) : ∀ (n : Nat) (s : Shared), s.heap.IsGen a gn → s.heap.NoLimit → (∃ gs, s.gens[gn]? = some gs ∧ gs.Goes (model P w) A.in1.in1 (RX F false) (YX F false a gn) n (.send .none) (s.setGen gn .running)) →
      codeAny (model P w) A (.builtin "all.loop" ⟨[.ref a], []⟩) Res s := by
  intro n
  induction n with
  | zero =>
    intro s hg hl ⟨gs, hgs, hgo⟩
    refine codeAny_builtin PySem.F.entry_all_loop ?_
    rw [Around.under_plainId PySem.F.plain_all_loop _]
    show wpAny _ A.in1 (pyNext (.ref a) >>= _) _ _ s
    refine wpAny_bind (next_genG (A := A.in1) (F := fun _ _ s₁ => F true s₁) (Er := fun _ _ => False) hh hl hd hg hgs hgo (fun v s₁ gs' hb hv => ?_) (fun s₁ hp h' hk => ?_) fun e s₁ he => he.elim)
    · obtain ⟨b, rfl, q1, q2, q3, q4, q5⟩ := id hv
      refine wpAny_bind (wpAny_holding (wpAny_truthy_bool ?_))
      refine wpAny_bind (wpAny_letGo ?_)
      cases b with
      | true => exact (q5 (by decide) s₁ ⟨rfl, rfl, q1⟩).elim
      | false =>
        simp only [Bool.false_eq_true, if_false]
        refine wpAny_bind (wpAny_rule (wpAny_pure ?_))
        exact hR _ _ (hFg _ _ _ (q4 rfl) (allBare_setGen q1 hb))
    · refine wpAny_bind (wpAny_rule (wpAny_pure ?_))
      exact hR _ _ (hFk _ _ _ (hFg _ _ _ hp (allBare_setGen (hFb _ _ hp) rfl)) hk)
  | succ n ih =>
    intro s hg hl ⟨gs, hgs, hgo⟩
    have hgl : gn < s.gens.size := (Array.getElem?_eq_some_iff.mp hgs).1
    refine codeAny_builtin PySem.F.entry_all_loop ?_
    rw [Around.under_plainId PySem.F.plain_all_loop _]
    show wpAny _ A.in1 (pyNext (.ref a) >>= _) _ _ s
    refine wpAny_bind (wpAny_gsz (n := gn + 1) hgl (next_genG (A := A.in1) (F := fun _ _ s₁ => F true s₁) (Er := fun _ _ => False) hh hl hd hg hgs hgo (fun v s₁ gs' hb hv => ?_) (fun s₁ hp h' hk => ?_) fun e s₁ he => he.elim))
    · intro hsz
      obtain ⟨b, rfl, q1, q2, q3, q4, q5⟩ := hv
      have hsz1 : gn < s₁.gens.size := by
        have q : (s₁.setGen gn gs').gens.size = s₁.gens.size := setGen_size _ _ _
        have hsz' : gn + 1 ≤ (s₁.setGen gn gs').gens.size := hsz
        omega
      refine wpAny_bind (wpAny_holding (wpAny_truthy_bool ?_))
      refine wpAny_bind (wpAny_letGo ?_)
      cases b with
      | true =>
        simp only [if_true]
        refine wpAny_pure ⟨plainId_quiet PySem.F.plain_all_loop _, ih _ q3 q2 ⟨gs', setGen_at hsz1, ?_⟩⟩
        exact q5 (by decide) _ ⟨rfl, rfl, allBare_setGen (s := s₁.setGen gn gs') (allBare_setGen q1 hb) rfl⟩
      | false =>
        simp only [Bool.false_eq_true, if_false]
        refine wpAny_bind (wpAny_rule (wpAny_pure ?_))
        exact hR _ _ (hFg _ _ _ (q4 rfl) (allBare_setGen q1 hb))
    · intro _
      refine wpAny_bind (wpAny_rule (wpAny_pure ?_))
      exact hR _ _ (hFk _ _ _ (hFg _ _ _ hp (allBare_setGen (hFb _ _ hp) rfl)) hk)
theorem loop_any (hh : A.handled = none) (hd : A.depth < recursionLimit) (hFg : ∀ b s G, F b s → AllBare G → F b { s with gens := G }) (hFk : ∀ b (s : Shared) h', F b s → (∀ b o, s.heap.get? b = some o → h'.get? b = some o) → F b { s with heap := h' }) (hFb : ∀ b s, F b s → AllBare s.gens)
    (hR : ∀ b s, F b s → Res (.ok (.ret (.bool b))) s) : ∀ (n : Nat) (s : Shared), s.heap.IsGen a gn → s.heap.NoLimit → (∃ gs, s.gens[gn]? = some gs ∧ gs.Goes (model P w) A.in1.in1 (RX F true) (YX F true a gn) n (.send .none) (s.setGen gn .running)) →
      codeAny (model P w) A (.builtin "any.loop" ⟨[.ref a], []⟩) Res s := by
  intro n
  induction n with
  | zero =>
    intro s hg hl ⟨gs, hgs, hgo⟩
    refine codeAny_builtin PySem.F.entry_any_loop ?_
    rw [Around.under_plainId PySem.F.plain_any_loop _]
    show wpAny _ A.in1 (pyNext (.ref a) >>= _) _ _ s
    refine wpAny_bind (next_genG (A := A.in1) (F := fun _ _ s₁ => F false s₁) (Er := fun _ _ => False) hh hl hd hg hgs hgo (fun v s₁ gs' hb hv => ?_) (fun s₁ hp h' hk => ?_) fun e s₁ he => he.elim)
    · obtain ⟨b, rfl, q1, q2, q3, q4, q5⟩ := id hv
      refine wpAny_bind (wpAny_holding (wpAny_truthy_bool ?_))
      refine wpAny_bind (wpAny_letGo ?_)
      cases b with
      | false => exact (q5 (by decide) s₁ ⟨rfl, rfl, q1⟩).elim
      | true =>
        simp only [if_true]
        refine wpAny_bind (wpAny_rule (wpAny_pure ?_))
        exact hR _ _ (hFg _ _ _ (q4 rfl) (allBare_setGen q1 hb))
    · refine wpAny_bind (wpAny_rule (wpAny_pure ?_))
      exact hR _ _ (hFk _ _ _ (hFg _ _ _ hp (allBare_setGen (hFb _ _ hp) rfl)) hk)
  | succ n ih =>
    intro s hg hl ⟨gs, hgs, hgo⟩
    have hgl : gn < s.gens.size := (Array.getElem?_eq_some_iff.mp hgs).1
    refine codeAny_builtin PySem.F.entry_any_loop ?_
    rw [Around.under_plainId PySem.F.plain_any_loop _]
    show wpAny _ A.in1 (pyNext (.ref a) >>= _) _ _ s
    refine wpAny_bind (wpAny_gsz (n := gn + 1) hgl (next_genG (A := A.in1) (F := fun _ _ s₁ => F false s₁) (Er := fun _ _ => False) hh hl hd hg hgs hgo (fun v s₁ gs' hb hv => ?_) (fun s₁ hp h' hk => ?_) fun e s₁ he => he.elim))
    · intro hsz
      obtain ⟨b, rfl, q1, q2, q3, q4, q5⟩ := hv
      have hsz1 : gn < s₁.gens.size := by
        have q : (s₁.setGen gn gs').gens.size = s₁.gens.size := setGen_size _ _ _
        have hsz' : gn + 1 ≤ (s₁.setGen gn gs').gens.size := hsz
        omega
      refine wpAny_bind (wpAny_holding (wpAny_truthy_bool ?_))
      refine wpAny_bind (wpAny_letGo ?_)
      cases b with
      | false =>
        simp only [Bool.false_eq_true, if_false]
        refine wpAny_pure ⟨plainId_quiet PySem.F.plain_any_loop _, ih _ q3 q2 ⟨gs', setGen_at hsz1, ?_⟩⟩
        exact q5 (by decide) _ ⟨rfl, rfl, allBare_setGen (s := s₁.setGen gn gs') (allBare_setGen q1 hb) rfl⟩
      | true =>
        simp only [if_true]
        refine wpAny_bind (wpAny_rule (wpAny_pure ?_))
        exact hR _ _ (hFg _ _ _ (q4 rfl) (allBare_setGen q1 hb))
    · intro _
      refine wpAny_bind (wpAny_rule (wpAny_pure ?_))
      exact hR _ _ (hFk _ _ _ (hFg _ _ _ hp (allBare_setGen (hFb _ _ hp) rfl)) hk)
end
end Cs
set_option maxHeartbeats 4000000
namespace Cs
open PySem PySem.Spec PyProof.Rows L2 GenW
/-- a generator that is ready to be asked by all (sv = false) or any (sv = true) -/
def ReadyX (X : Cx) (pins : List (Addr × Obj)) (σ : L2.St) (Q : VK) (sv : Bool) (a : Addr) (s5 : Shared) : Prop :=
  ∃ (gn : Nat) (F : Bool → Shared → Prop) (n : Nat), s5.heap.IsGen a gn ∧ s5.heap.NoLimit ∧ (∃ gs, s5.gens[gn]? = some gs ∧ gs.Goes (model X.prog X.w) X.A.in1.in1 (RX F sv) (YX F sv a gn) n (.send .none) (s5.setGen gn .running)) ∧
    (∀ b s G, F b s → AllBare G → F b { s with gens := G }) ∧ (∀ b (s : Shared) h', F b s → (∀ b o, s.heap.get? b = some o → h'.get? b = some o) → F b { s with heap := h' }) ∧ (∀ b s, F b s → AllBare s.gens) ∧ ∀ b s', F b s' → EP X pins σ Q (.bool b) s'
/-- the frame's environment -/
abbrev gxE (X : Cx) (scope : Scope) (C : Addr) (code : Value) : Env := genEnv scope (cloFrom X.env.cells scope.names []) C code builtinsNs X.env
def tGx (P : Addr) (sv : Bool) (wi : TI) (g : TG) (tt : TT) (te : TE) (own : List Str) (fr : List (Str × Nat)) : TE := fun σ H Q => wi σ H fun J H1 => GxR.TabG H1 P ∧ ∀ H2, GxR.Tabbed P H1 H2 →
  ∃ W : Nat → Nat → Hp → Prop, (∃ m, W 0 m H2) ∧ GxTurn J g tt te sv (gxσ own fr σ) (List.range own.length) (fun b H => Q (.bl b) H) W
section
variable {X : Cx} {pins : List (Addr × Obj)} {σ : L2.St} {H : Hp} {s : Shared} {c P : Addr} {elt tg iter : Expr} {ifs : List Expr} {p pos gpos : Pos} {scope : Scope} {wi : TI} {g : TG} {tt : TT} {te : TE} {k : Nat} {own : List Str} {fr : List (Str × Nat)} {sv : Bool} {Q : VK} {Q' : Value → Shared → Prop}
theorem gx_over (hr : Room k X.A) (TB : GxR.TabB X.base X.mg c P) (hcode : X.env.code = .ref c) (S : GxS X.N X.env.scope scope own fr) (hc : X.calm = true) (hi : PI X tg iter wi) (hs : ∀ v, genFold iter X.env v = pure v)
    (hg : ∀ s H C code fp pn, PG (gxc X (gxN own fr) s H (gxE X scope C code) fp pn) tg g) (ht : ∀ s H C code fp pn, PTs (gxc X (gxN own fr) s H (gxE X scope C code) fp pn) ifs tt) (he : ∀ s H C code fp pn, PE (gxc X (gxN own fr) s H (gxE X scope C code) fp pn) elt te)
    (I : Inv X pins σ H s) (h : tGx P sv wi g tt te own fr σ H Q) (hQ : ∀ a s5, ReadyX X pins σ Q sv a s5 → Q' (.ref a) s5) :
    wpAny (model X.prog X.w) X.A (eval (.GeneratorExp elt [⟨tg, iter, ifs, 0⟩] scope gpos) X.env) Q' X.xe s := by
  have hfree : ∀ y ∈ scope.names, y.2 = .free → ∃ c, X.env.cells.lookup y.1 = some c := fun y hy e => by
    rcases S.free y hy e with k | k
    · exact I.ok.has _ (.inl k)
    · exact I.ok.has _ (.inr k)
  refine wpAny_GeneratorExp_make S.co (closure_ok hfree) S.cell S.dot S.kind hr.depth ?_ hs
  refine thn (hi.run pins s σ H _ I h) fun xv s1 hx => thn hx fun itv s2 h2 => ?_
  obtain ⟨it, fp, tn, J, HA, e, IA, T, st, f2, ⟨ps, hP, okP⟩, q⟩ := h2
  subst e
  refine ⟨IA.nolimit, ?_⟩
  have atP : s2.heap.get? P = some { cls := .none, data := .fields ps } := IA.hok P _ hP
  have hd : PySem.W.CodeHd s2.heap c P := TB.code.keeps fun b u q => IA.bk b u q
  have go : ∀ (code : Value) (hC : Heap) (tk : Nat) (more : Array Value), Heap.ExtBut P s2.heap hC → s2.heap.objs.size ≤ hC.objs.size → hC.get? P = some { cls := .none, data := .fields (ps ++ more) } → TriplesOk (ps ++ more).toList →
      wpAny (model X.prog X.w) X.A (builtinsFor X.env.globals X.env.builtins) (fun bi s₄ => ∀ h', h'.Ns s₄.heap.objs.size (fun y => if y = ".0" then some (.ref it) else none) → Heap.SameBut s₄.heap.objs.size (s₄.heap.push { cls := .type "frame", data := .dict #[] }) h' →
          Q' (.ref h'.objs.size) { s₄ with
            gens := s₄.gens.push (.fresh (.compStart (.GeneratorExp elt [⟨tg, iter, ifs, 0⟩] scope gpos) 0 (.ref it) .none (genEnv scope (cloFrom X.env.cells scope.names []) s₄.heap.objs.size code bi X.env))),
            toks := s₄.toks + 1 + 1 + 1,
            heap := h'.push { cls := .type "generator", data := .fields #[.int s₄.gens.size 0, .str "<genexpr>" (s₄.toks + 1), .str (X.env.qual ++ "<genexpr>") (s₄.toks + 1 + 1)] } }) X.xe { s2 with heap := hC, toks := tk } := by
    intro code hC tk more ext big tabC okC
    obtain ⟨bm, ob, b1, b2, b3, b4, b5, b6, b7, b8⟩ := TB.bm
    have old : ∀ b u, b ≠ P → s2.heap.get? b = some u → hC.get? b = some u := fun b u n q => ext b u n q
    refine wpAny_builtinsFor (m := X.mg) (by rw [IA.ok.glob]; exact (IA.mod.glob.keeps IA.bk).extBut ext TB.gP) b1 b2 (old _ _ b4 (IA.bk _ _ b5)) b6 b7 b8 ?_
    intro h' hn' hs'
    have hn' : h'.Ns hC.objs.size (fun y => if y = ".0" then some (.ref it) else none) := hn'
    have hs' : Heap.SameBut hC.objs.size (hC.push { cls := .type "frame", data := .dict #[] }) h' := hs'
    have I4 : Inv X pins σ (upd HA P (.tbl (ps ++ more))) { s2 with heap := hC, toks := tk } := GxR.inv_tab (more := more) (h' := hC) (g' := s2.gens) (d' := s2.drawn) (t' := tk) IA hP old tabC IA.bare
    have nP : ∀ b ∈ fp, b ≠ P := fun b hb z => by
      have := (f2 b hb).1
      rw [z, hP] at this
      cases this
    have lt2 : ∀ b ∈ fp, b < hC.objs.size := fun b hb => by
      obtain ⟨o, e, _⟩ := T.obj _ _ st b hb
      exact Nat.lt_of_lt_of_le (Heap.lt_size e) big
    have f4 : ∀ b ∈ fp, FpOk X pins (upd HA P (.tbl (ps ++ more))) b ∧ b < ({ s2 with heap := hC, toks := tk } : Shared).heap.objs.size := fun b hb => ⟨⟨by rw [upd_ne (nP b hb)]; exact (f2 b hb).1, (f2 b hb).2⟩, lt2 b hb⟩
    have st4 : tn 0 hC := T.keep _ _ _ st fun b hb o e => old b o (nP b hb) e
    have hsz : h'.objs.size = hC.objs.size + 1 := by rw [hs'.1, Heap.size_push]
    show Q' (.ref h'.objs.size) { s2 with
            gens := s2.gens.push (.fresh (.compStart (.GeneratorExp elt [⟨tg, iter, ifs, 0⟩] scope gpos) 0 (.ref it) .none (genEnv scope (cloFrom X.env.cells scope.names []) hC.objs.size code builtinsNs X.env))),
            toks := tk + 1 + 1 + 1,
            heap := h'.push ({ cls := .type "generator", data := .fields #[.int s2.gens.size 0, .str "<genexpr>" (tk + 1), .str (X.env.qual ++ "<genexpr>") (tk + 1 + 1)] } : Obj) }
    generalize hgo : ({ cls := .type "generator", data := .fields #[.int s2.gens.size 0, .str "<genexpr>" (tk + 1), .str (X.env.qual ++ "<genexpr>") (tk + 1 + 1)] } : Obj) = gobj
    have keep5 : ∀ b o, hC.get? b = some o → (h'.push gobj).get? b = some o := fun b o e => Heap.get?_push_of_some _ (hs'.extBut b o (Nat.ne_of_lt (Heap.lt_size e)) (Heap.get?_push_of_some _ e))
    generalize hce : genEnv scope (cloFrom X.env.cells scope.names []) hC.objs.size code builtinsNs X.env = ce
    generalize hs5 : ({ s2 with gens := s2.gens.push (.fresh (.compStart (.GeneratorExp elt [⟨tg, iter, ifs, 0⟩] scope gpos) 0 (.ref it) .none ce)), toks := tk + 1 + 1 + 1, heap := h'.push gobj } : Shared) = s5
    have h5 : s5.heap = h'.push gobj := by rw [← hs5]
    have g5 : s5.gens = s2.gens.push (.fresh (.compStart (.GeneratorExp elt [⟨tg, iter, ifs, 0⟩] scope gpos) 0 (.ref it) .none ce)) := by rw [← hs5]
    have o5 : s5.os = s2.os := by rw [← hs5]
    have gat : s5.heap.get? h'.objs.size = some gobj := by rw [h5]; exact Heap.get?_push_size _ (by rw [← hgo]; rfl)
    have isg : ∀ h : Heap, h.get? h'.objs.size = some gobj → h.IsGen h'.objs.size s2.gens.size := fun h e => ⟨gobj, _, _, e, by rw [← hgo], by rw [← hgo], by rw [← hgo]⟩
    have b5' : AllBare s5.gens := by rw [g5]; exact IA.bare.push rfl
    have hsc : ce.scope = scope := by rw [← hce]; rfl
    have I5 : Inv (gxc X (gxN own fr) { s2 with heap := hC, toks := tk } (upd HA P (.tbl (ps ++ more))) ce fp [(h'.objs.size, gobj)]) [] (gxσ own fr σ) (upd HA P (.tbl (ps ++ more))) (s5.setGen s2.gens.size .running) := by
      rw [← hce]
      refine gx_start S hc I4 f4 o5 (allBare_setGen b5' rfl) (fun b o e => by show s5.heap.get? b = some o; rw [h5]; exact keep5 b o e) ⟨_, by show s5.heap.Ns _ _; rw [h5]; exact hn'.push _⟩ fun p hp => ?_
      rw [List.mem_singleton.mp hp]
      exact ⟨gat, by show hC.objs.size < h'.objs.size; omega, fun v z => by rw [← hgo] at z; cases z⟩
    have hgs : s5.gens[s2.gens.size]? = some (.fresh (.compStart (.GeneratorExp elt [⟨tg, iter, ifs, 0⟩] scope gpos) 0 (.ref it) .none ce)) := by rw [g5]; exact Array.getElem?_push_size ..
    obtain ⟨W, ⟨m, w0⟩, turn⟩ := q (upd HA P (.tbl (ps ++ more))) ⟨⟨ps ++ more, upd_same, okC⟩, fun b n => upd_ne n⟩
    refine hQ _ _ ⟨s2.gens.size, GxF (gxc X (gxN own fr) { s2 with heap := hC, toks := tk } (upd HA P (.tbl (ps ++ more))) ce fp [(h'.objs.size, gobj)]) (fun b H => Q (.bl b) H), m + 1, isg _ gat, I5.nolimit, ⟨_, hgs, rfl, ?_⟩, ?_, ?_, ?_, ?_⟩
    · refine seg_gxStart (Xg := gxc X (gxN own fr) { s2 with heap := hC, toks := tk } (upd HA P (.tbl (ps ++ more))) ce fp [(h'.objs.size, gobj)]) rfl hc (by show ce.scope.isCoroutine = false; rw [hsc]; exact S.co) rfl rfl T (hce ▸ hg _ _ _ _ _ _) (hce ▸ ht _ _ _ _ _ _) (hce ▸ he _ _ _ _ _ _)
        (fun b hb p hp => ?_) (fun pins' σ' H' s' I' => isg _ (I'.pin (h'.objs.size, gobj) (List.mem_append_left _ (List.mem_singleton.mpr rfl))).1) turn (Nat.lt_succ_self m) I5 (T.keep _ _ _ st4 fun b hb o e => by show s5.heap.get? b = some o; rw [h5]; exact keep5 b o e) (fun b hb => (f4 b hb).1.1) w0
      rw [List.mem_singleton.mp hp]
      have hlt : hC.objs.size < h'.objs.size := by omega
      exact Nat.ne_of_gt (Nat.lt_trans (lt2 b hb) hlt)
    · rintro b s' G ⟨σ', H', I', qq⟩ hG
      exact ⟨σ', H', Inv.gens' I' hG, qq⟩
    · rintro b s' h2 ⟨σ', H', I', qq⟩ hk
      exact ⟨σ', H', I'.kept (t' := s'.toks) hk, qq⟩
    · rintro b s' ⟨σ', H', I', qq⟩
      exact I'.bare
    · rintro b s' ⟨σ', H', I', qq⟩
      exact ⟨.bl b, H', I4.call' (ch := fp) I'.os I'.base I'.hok I'.bare fun b hb => ⟨(f4 b hb).1.2.2.2.1, (f4 b hb).1.2.1, (f4 b hb).1.2.2.2.2.1, (f4 b hb).1.2.2.2.2.2⟩, rfl, qq⟩
  cases ec : codeAmong gpos ps.toList with
  | some cv =>
    refine wpAny_genexprCode_hit hcode (hd.code atP okP) ec ?_
    exact go cv s2.heap s2.toks #[] (Heap.ExtBut.refl _ _) (Nat.le_refl _) (by rw [Array.append_empty]; exact atP) (by rw [Array.append_empty]; exact okP)
  | none =>
    refine wpAny_genexprCodeX hcode (hd.code atP okP) (hd.tab atP) ec fun c' hC tk ext ge lt co _ tab _ => ?_
    obtain ⟨_, _, _, _, _, _, _, _, _, _, _, _, _, _, _, _, _, _, _, okC, _⟩ := co
    exact go _ hC tk _ ext (Nat.le_trans ge (Nat.le_of_lt lt)) tab.2 okC
/-- all(elt for tg in iter if ..) -/
theorem pe_gxAll (hr : Room k X.A) (hgl : Gl X "all") (hm : X.mg "all" = none) (hb : bootBuiltins "all" = some (.builtin "all")) (TB : GxR.TabB X.base X.mg c P) (hcode : X.env.code = .ref c) (S : GxS X.N X.env.scope scope own fr) (hc : X.calm = true) (hi : PI X tg iter wi) (hs : ∀ v, genFold iter X.env v = pure v)
    (hg : ∀ s H C code fp pn, PG (gxc X (gxN own fr) s H (gxE X scope C code) fp pn) tg g) (ht : ∀ s H C code fp pn, PTs (gxc X (gxN own fr) s H (gxE X scope C code) fp pn) ifs tt) (he : ∀ s H C code fp pn, PE (gxc X (gxN own fr) s H (gxE X scope C code) fp pn) elt te)
    (hst : starEach [.GeneratorExp elt [⟨tg, iter, ifs, 0⟩] scope gpos] X.env = (false, eval (.GeneratorExp elt [⟨tg, iter, ifs, 0⟩] scope gpos) X.env) :: starEach [] X.env := by rfl) :
    PE X (.Call (.Name "all" p) [.GeneratorExp elt [⟨tg, iter, ifs, 0⟩] scope gpos] [] pos) (tGx P false wi g tt te own fr) := by
  refine ⟨fun pins s σ H Q I h => ?_⟩
  refine wpAny_Call_Name_kw (ld_blt I hgl hm hb ?_)
  refine PyProof.Rows.callWith_builtin1 ?_ hst (by rfl)
  rw [hst]
  show wpAny _ _ (spliced ((false, eval (.GeneratorExp elt [⟨tg, iter, ifs, 0⟩] scope gpos) X.env) :: backTo pos (starEach [] X.env))) _ _ s
  refine Calls.spliced_cons (gx_over hr TB hcode S hc hi hs hg ht he I h fun a s5 ⟨gn, F, n, r1, r2, r3, r4, r5, r6, r7⟩ => ?_)
  refine Calls.spliced_nil ?_
  refine call_function_tree PySem.F.kind_all PySem.F.plain_all PySem.F.entry_all (PySem.F.args_all1 _) ?_
  unfold Builtin.«all»
  refine wpAny_bind (m := oneArg "all" _) (wpAny_pure ?_)
  refine wpAny_bind (wpAny_pyIter_gen r1 ?_)
  exact wpAny_pure ⟨plainId_quiet PySem.F.plain_all_loop _, loop_all hr.hd hr.depth r4 r5 r6 r7 n s5 r1 r2 r3⟩
/-- any(elt for tg in iter if ..) -/
theorem pe_gxAny (hr : Room k X.A) (hgl : Gl X "any") (hm : X.mg "any" = none) (TB : GxR.TabB X.base X.mg c P) (hcode : X.env.code = .ref c) (S : GxS X.N X.env.scope scope own fr) (hc : X.calm = true) (hi : PI X tg iter wi) (hs : ∀ v, genFold iter X.env v = pure v)
    (hg : ∀ s H C code fp pn, PG (gxc X (gxN own fr) s H (gxE X scope C code) fp pn) tg g) (ht : ∀ s H C code fp pn, PTs (gxc X (gxN own fr) s H (gxE X scope C code) fp pn) ifs tt) (he : ∀ s H C code fp pn, PE (gxc X (gxN own fr) s H (gxE X scope C code) fp pn) elt te)
    (hst : starEach [.GeneratorExp elt [⟨tg, iter, ifs, 0⟩] scope gpos] X.env = (false, eval (.GeneratorExp elt [⟨tg, iter, ifs, 0⟩] scope gpos) X.env) :: starEach [] X.env := by rfl) :
    PE X (.Call (.Name "any" p) [.GeneratorExp elt [⟨tg, iter, ifs, 0⟩] scope gpos] [] pos) (tGx P true wi g tt te own fr) := by
  refine ⟨fun pins s σ H Q I h => ?_⟩
  refine wpAny_Call_Name_kw (ld_blt I hgl hm boot_any ?_)
  refine PyProof.Rows.callWith_builtin1 ?_ hst (by rfl)
  rw [hst]
  show wpAny _ _ (spliced ((false, eval (.GeneratorExp elt [⟨tg, iter, ifs, 0⟩] scope gpos) X.env) :: backTo pos (starEach [] X.env))) _ _ s
  refine Calls.spliced_cons (gx_over hr TB hcode S hc hi hs hg ht he I h fun a s5 ⟨gn, F, n, r1, r2, r3, r4, r5, r6, r7⟩ => ?_)
  refine Calls.spliced_nil ?_
  refine call_function_tree PySem.F.kind_any PySem.F.plain_any PySem.F.entry_any (PySem.F.args_any1 _) ?_
  unfold Builtin.«any»
  refine wpAny_bind (m := oneArg "any" _) (wpAny_pure ?_)
  refine wpAny_bind (wpAny_pyIter_gen r1 ?_)
  exact wpAny_pure ⟨plainId_quiet PySem.F.plain_any_loop _, loop_any hr.hd hr.depth r4 r5 r6 r7 n s5 r1 r2 r3⟩
theorem room_gx {NG : List Str} {s : Shared} {H : Hp} {cenv : Env} {fp : List Addr} {pn : List (Addr × Obj)} (hr : Room (k + 3) X.A) : Room k (gxc X NG s H cenv fp pn).A := hr.in1.in1.deeper _
def gxC (N : List Str) (sc scope : Scope) (own : List Str) (fr : List (Str × Nat)) : Bool :=
  (match scope.kind with | .function => true | _ => false) && !scope.isCoroutine && (scope.names.all fun y => match y.2 with | .cell => false | _ => true) && (match scope.names.lookup (".0" : Str) with | some .local => true | _ => false) &&
    (own.all fun x => match scope.names.lookup x with | some .local => true | _ => false) && (fr.all fun p => (match scope.names.lookup p.1 with | some .free => true | _ => false) && decide (N[p.2]? = some p.1)) &&
    (scope.names.all fun y => match y.2 with | .free => (match sc.names.lookup y.1 with | some .cell => true | some .free => true | _ => false) | _ => true) && (scope.names.all fun y => decide (scope.names.lookup y.1 = some y.2))
theorem gxS_by {N : List Str} {sc scope : Scope} {own : List Str} {fr : List (Str × Nat)} (h : gxC N sc scope own fr = true) : GxS N sc scope own fr := by
  unfold gxC at h
  simp only [Bool.and_eq_true, List.all_eq_true, decide_eq_true_eq, Bool.not_eq_true'] at h
  obtain ⟨⟨⟨⟨⟨⟨⟨h1, h2⟩, h3⟩, h4⟩, h5⟩, h6⟩, h7⟩, h8⟩ := h
  refine ⟨?_, h2, fun y hy e => ?_, ?_, fun x hx => ?_, fun p hp => ⟨?_, (h6 p hp).2⟩, fun y hy e => ?_, h8⟩
  · split at h1
    · assumption
    · cases h1
  · have := h3 y hy
    rw [e] at this
    cases this
  · split at h4
    · assumption
    · cases h4
  · have := h5 x hx
    split at this
    · assumption
    · cases this
  · have := (h6 p hp).1
    split at this
    · assumption
    · cases this
  · have := h7 y hy
    rw [e] at this
    dsimp only at this
    split at this
    · exact .inl ‹_›
    · exact .inr ‹_›
    · cases this
end
end Cs
set_option maxHeartbeats 4000000
namespace Cs
open PySem PySem.Spec PyProof.Rows L2
/-! ### any, all of a generator expression, by kinds -/
/-- the table of a def's code: it grows -/
def cTab : CF := ⟨fun _ o => ∃ ps : Array Value, o = .tbl ps ∧ TriplesOk ps.toList, fun _ h => h⟩
abbrev tab (P : Addr) : RS := cell P cTab
theorem Ok.tabG {W : Wd} {σ : L2.St} {H : Hp} {P : Addr} (o : Ok W σ H) (h : tab P ∈ W.L) : GxR.TabG H P := by
  obtain ⟨ob, h1, ps, h2, h3⟩ := o.at_ _ h
  exact ⟨ps, by rw [h1, h2], h3⟩
theorem Ok.tabbed {W : Wd} {σ : L2.St} {H H' : Hp} {P : Addr} (o : Ok W σ H) (h : tab P ∈ W.L) (z : GxR.Tabbed P H H') : Go1 W σ H H' := by
  obtain ⟨⟨ps, h1, h2⟩, h3⟩ := z
  have e : fps [tab P] = [P] := rfl
  refine o.after (C := [tab P]) (fun r m => by rw [List.mem_singleton.mp m]; exact h) (fun b ob n q => ?_) (fun a m => ?_) (fun r m => ?_)
  · rw [e] at n
    rw [h3 b (fun z => n (by rw [z]; exact List.mem_singleton.mpr rfl))]
    exact q
  · rw [e] at m
    rw [List.mem_singleton.mp m, h1]
    exact fun z => by cases z
  · rw [List.mem_singleton.mp m]
    exact ⟨_, h1, ps, rfl, h2⟩
theorem wipe_none {σ : L2.St} : ∀ {vs : List Nat}, (∀ v ∈ vs, σ[v]? = some none) → wipe σ vs = σ
  | [], _ => rfl
  | v :: vs, h => by
    unfold wipe
    rw [wipe_none fun w m => h w (List.mem_cons_of_mem _ m)]
    have l := h v (List.mem_cons_self ..)
    apply List.ext_getElem?
    intro j
    rw [List.getElem?_set]
    by_cases e : v = j
    · subst e
      rw [if_pos rfl, l, if_pos (List.getElem?_eq_some_iff.mp l).1]
    · rw [if_neg e]
theorem wipe_gxσ {own : List Str} {fr : List (Str × Nat)} {σ : L2.St} : wipe (gxσ own fr σ) (List.range own.length) = gxσ own fr σ := wipe_none fun v m => by
  have l := List.mem_range.mp m
  unfold gxσ
  rw [List.getElem?_append_left (by simpa using l), List.getElem?_map, List.getElem?_eq_getElem l]
  rfl
def gxW (W : Wd) (F : List FF) (own : List Str) (capG : List (Option SF)) : Wd := ⟨W.H0, W.M, W.S, W.L, F, own.map (fun _ => none) ++ capG⟩
/-- what is known of the captured names -/
def CapOk (G : List (Option SF)) (fr : List (Str × Nat)) (capG : List (Option SF)) : Prop := capG.length = fr.length ∧ ∀ (j : Nat) (f : SF), capG[j]? = some (some f) → ∃ p, fr[j]? = some p ∧ G[p.2]? = some (some f)
theorem Ok.gx {W : Wd} {σ : L2.St} {H : Hp} {own : List Str} {fr : List (Str × Nat)} {capG : List (Option SF)} (o : Ok W σ H) (c : CapOk W.G fr capG) : Ok (gxW W W.F own capG) (gxσ own fr σ) H :=
  ⟨o.nod, o.own, o.at_, o.ms, o.al, o.bt, by show (gxσ own fr σ).length = (own.map (fun _ => Option.none) ++ capG).length; simp [gxσ, c.1], o.facts, fun i f q => by
    have q : (own.map (fun _ => (Option.none : Option SF)) ++ capG)[i]? = some (some f) := q
    by_cases l : i < own.length
    · rw [List.getElem?_append_left (by simpa using l), List.getElem?_map, List.getElem?_eq_getElem l] at q
      cases q
    · rw [List.getElem?_append_right (by simpa using Nat.le_of_not_lt l), List.length_map] at q
      obtain ⟨p, h1, h2⟩ := c.2 _ f q
      obtain ⟨v, h3, h4⟩ := o.slots p.2 f h2
      refine ⟨v, ?_, h4⟩
      unfold gxσ
      rw [List.getElem?_append_right (by simpa using Nat.le_of_not_lt l), List.length_map, List.getElem?_map, h1]
      show some ((σ[p.2]?).getD Option.none) = some (some v)
      rw [h3]; rfl⟩
theorem gx_it {J : It} {n : Nat} {G : Hp → Prop} {Y : Nat → Hp → V → Hp → Prop} (w : Walk J n G Y) {g : TG} {tt : TT} {te : TE} {sv : Bool} {σ0 : L2.St} {own : List Nat} {Qe : Bool → Hp → Prop} (Pv : Nat → Hp → Prop) (hG : ∀ i H, i ≤ n → Pv i H → G H)
    (hs : ∀ i x H H', i < n → Pv i H → Y i H x H' → g x σ0 H' fun σ2 H2 => wipe σ2 own = σ0 ∧ tt σ2 H2 fun b H3 => if b = true then te σ2 H3 fun y H4 => ∃ c, y = .bl c ∧ (if c = sv then Qe sv H4 else Pv (i + 1) H4) else Pv (i + 1) H3) (hd : ∀ H, Pv n H → Qe (!sv) H) :
    GxTurn J g tt te sv σ0 own Qe (fun i m H => m = n - i ∧ i ≤ n ∧ Pv i H) := by
  rintro i m H ⟨rfl, hi, p⟩
  have q := hG i H hi p
  by_cases l : i < n
  · exact .inr ⟨w.goes i H l q, Pv (i + 1), fun H' p' => ⟨n - (i + 1), by omega, rfl, l, p'⟩, fun x H' y => hs i x H H' l p (w.yields i H x H' l q y)⟩
  · obtain rfl : i = n := by omega
    exact .inl ⟨w.stops H q, hd H p⟩
section
variable {α β : Type} {W : Wd} {K : PySem.W.Frag} {te : TE} {t : Ty α} {tt : TT} {g : TG} {as : α → List (Nat × SF)} {wi : TI} {P : Addr} {own : List Str} {fr : List (Str × Nat)} {capG : List (Option SF)} {sv : Bool}
theorem ev_gx {xs : List α} {p f : α → Bool} (hP : tab P ∈ W.L) (h : Iv W wi t xs) (tg : Tgt g t as) (hi : ∀ x, ∀ q ∈ as x, q.1 ∈ List.range own.length) (hc : CapOk W.G fr capG)
    (ht : ∀ F x, (∀ q ∈ W.F, q ∈ F) → x ∈ xs → Et ((gxW W F own capG).puts (as x)) tt (p x)) (he : ∀ F x, (∀ q ∈ W.F, q ∈ F) → x ∈ xs → p x = true → Ev ((gxW W F own capG).puts (as x)) te tBl (f x))
    (hp : ∀ (W : Wd) x, (W.puts (as x)).H0 = W.H0 ∧ (W.puts (as x)).M = W.M ∧ (W.puts (as x)).S = W.S ∧ (W.puts (as x)).L = W.L ∧ (W.puts (as x)).F = W.F := by intros; exact ⟨rfl, rfl, rfl, rfl, rfl⟩) :
    Ev W (tGx P sv wi g tt te own fr) tBl (if xs.any (fun x => p x && (f x == sv)) = true then sv else !sv) := fun σ H o Q q => by
  refine h σ H o _ fun J H1 f0 g1 fp wk => ?_
  refine ⟨g1.ok.tabG hP, fun H2 z => ?_⟩
  have g2 := g1.trans (g1.ok.tabbed hP z)
  have fp2 := f0.mono (g1.ok.tabbed hP z).up fp
  obtain ⟨Y, wY, hY⟩ := wk.ex
  let Wk : Wd := ⟨W.H0, W.M, W.S, W.L, f0 :: ffS (hid W.S H) :: W.F, W.G⟩
  have o0 : Ok Wk σ H2 := Ok.know (Ok.know g2.ok (f := ffS (hid W.S H)) g2.up) (f := f0) fp2
  have ff : ∀ H, Ok Wk σ H → f0.p (hid W.S H) := fun H o => o.facts f0 (List.mem_cons_self ..)
  have back : ∀ H', Ok Wk σ H' → Go1 W σ H H' := fun H' o' => ⟨⟨o'.nod, o'.own, o'.at_, o'.ms, o'.al, o'.bt, o'.len, fun q m => o'.facts q (List.mem_cons_of_mem _ (List.mem_cons_of_mem _ m)), o'.slots⟩, o'.facts (ffS (hid W.S H)) (List.mem_cons_of_mem _ (List.mem_cons_self ..))⟩
  have st0 : (xs.take 0).any (fun x => p x && (f x == sv)) = false ∧ Ok Wk σ H2 := ⟨by simp, o0⟩
  refine ⟨_, ⟨xs.length, by rw [Nat.sub_zero], Nat.zero_le _, st0⟩, gx_it wY (fun k H' => (xs.take k).any (fun x => p x && (f x == sv)) = false ∧ Ok Wk σ H') (fun k H' _ o' => ⟨_, ff H' o'.2⟩) ?_ ?_⟩
  · rintro k v H0' H' hk ⟨pre, o'⟩ y
    obtain ⟨e, x, hx, rx⟩ := hY k H0' v H' _ hk (ff H0' o') o'.al y
    have o' := o'.same e
    have xm := List.mem_of_getElem? hx
    have sub : ∀ q ∈ W.F, q ∈ f0 :: ffS (hid W.S H) :: W.F := fun q m => List.mem_cons_of_mem _ (List.mem_cons_of_mem _ m)
    have oi : Ok (gxW W (f0 :: ffS (hid W.S H) :: W.F) own capG) (gxσ own fr σ) H' := Ok.gx (W := Wk) o' hc
    refine tg _ _ H' v x oi rx _ fun σ' oe ew => ?_
    refine ⟨by rw [ew (List.range own.length) (hi x), wipe_gxσ], ?_⟩
    have ret : ∀ H2, Go1 ((gxW W (f0 :: ffS (hid W.S H) :: W.F) own capG).puts (as x)) σ' H' H2 → Ok Wk σ H2 := fun H2 g2 => by
      obtain ⟨p1, p2, p3, p4, p5⟩ := hp (gxW W (f0 :: ffS (hid W.S H) :: W.F) own capG) x
      have o2 := g2.ok
      have up := g2.up
      rw [p3] at up
      have o3 : Ok { Wk with G := ((gxW W (f0 :: ffS (hid W.S H) :: W.F) own capG).puts (as x)).G } σ' H2 := by
        have : ((gxW W (f0 :: ffS (hid W.S H) :: W.F) own capG).puts (as x)) = { Wk with G := ((gxW W (f0 :: ffS (hid W.S H) :: W.F) own capG).puts (as x)).G } := by
          generalize ((gxW W (f0 :: ffS (hid W.S H) :: W.F) own capG).puts (as x)) = Z at p1 p2 p3 p4 p5 ⊢
          cases Z
          cases p1; cases p2; cases p3; cases p4; cases p5
          rfl
        rw [← this]
        exact o2
      exact Ok.swap (W := Wk) o' o3 up
    have tk : xs.take (k + 1) = xs.take k ++ [x] := take_snoc hx
    refine ht _ x sub xm _ _ oe _ fun H2 g2 => ?_
    cases hpx : p x with
    | false =>
      refine iteF ⟨?_, ret H2 g2⟩
      rw [tk, List.any_append, pre]
      simp [hpx]
    | true =>
      refine iteT ?_
      refine he _ x sub xm hpx _ _ g2.ok _ fun w H3 g3 rw' => ?_
      have o3 := ret H3 (g2.trans g3)
      refine ⟨f x, rw', ?_⟩
      by_cases hf : f x = sv
      · rw [if_pos hf]
        have any1 : xs.any (fun x => p x && (f x == sv)) = true := List.any_eq_true.mpr ⟨x, xm, by simp [hpx, hf]⟩
        rw [if_pos any1] at q
        exact q _ _ (back H3 o3) rfl
      · rw [if_neg hf]
        refine ⟨?_, o3⟩
        rw [tk, List.any_append, pre]
        simp [hpx, hf]
  · rintro H' ⟨pre, o'⟩
    rw [List.take_length] at pre
    rw [if_neg (by rw [pre]; exact Bool.false_ne_true)] at q
    exact q _ _ (back H' o') rfl
theorem any_res {xs : List α} {p f : α → Bool} : (if xs.any (fun x => p x && (f x == true)) = true then true else !true) = xs.any (fun x => p x && f x) := by
  simp only [beq_true]
  cases xs.any (fun x => p x && f x) <;> rfl
theorem all_res {xs : List α} {f : α → Bool} : (if xs.any (fun x => true && (f x == false)) = true then false else !false) = xs.all f := by
  induction xs with
  | nil => rfl
  | cons x xs ih =>
    rw [List.any_cons, List.all_cons, ← ih]
    cases f x <;> simp
/-- all(e for .. in ..) -/
theorem ev_gxAll {xs : List α} {f : α → Bool} (hP : tab P ∈ W.L) (h : Iv W wi t xs) (tg : Tgt g t as) (hi : ∀ x, ∀ q ∈ as x, q.1 ∈ List.range own.length) (hc : CapOk W.G fr capG)
    (he : ∀ F x, (∀ q ∈ W.F, q ∈ F) → x ∈ xs → Ev ((gxW W F own capG).puts (as x)) te tBl (f x))
    (hp : ∀ (W : Wd) x, (W.puts (as x)).H0 = W.H0 ∧ (W.puts (as x)).M = W.M ∧ (W.puts (as x)).S = W.S ∧ (W.puts (as x)).L = W.L ∧ (W.puts (as x)).F = W.F := by intros; exact ⟨rfl, rfl, rfl, rfl, rfl⟩) :
    Ev W (tGx P false wi g tYes te own fr) tBl (xs.all f) := ev_is (ev_gx (p := fun _ => true) hP h tg hi hc (fun _ _ _ _ => et_yes) (fun F x hF hx _ => he F x hF hx) hp) all_res
/-- any(e for .. in ..) -/
theorem ev_gxAny {xs : List α} {f : α → Bool} (hP : tab P ∈ W.L) (h : Iv W wi t xs) (tg : Tgt g t as) (hi : ∀ x, ∀ q ∈ as x, q.1 ∈ List.range own.length) (hc : CapOk W.G fr capG)
    (he : ∀ F x, (∀ q ∈ W.F, q ∈ F) → x ∈ xs → Ev ((gxW W F own capG).puts (as x)) te tBl (f x))
    (hp : ∀ (W : Wd) x, (W.puts (as x)).H0 = W.H0 ∧ (W.puts (as x)).M = W.M ∧ (W.puts (as x)).S = W.S ∧ (W.puts (as x)).L = W.L ∧ (W.puts (as x)).F = W.F := by intros; exact ⟨rfl, rfl, rfl, rfl, rfl⟩) :
    Ev W (tGx P true wi g tYes te own fr) tBl (xs.any f) := ev_is (ev_gx (p := fun _ => true) hP h tg hi hc (fun _ _ _ _ => et_yes) (fun F x hF hx _ => he F x hF hx) hp) (by rw [any_res]; simp)
/-- any(e for .. in .. if ..) -/
theorem ev_gxAnyIf {xs : List α} {p f : α → Bool} (hP : tab P ∈ W.L) (h : Iv W wi t xs) (tg : Tgt g t as) (hi : ∀ x, ∀ q ∈ as x, q.1 ∈ List.range own.length) (hc : CapOk W.G fr capG)
    (ht : ∀ F x, (∀ q ∈ W.F, q ∈ F) → x ∈ xs → Et ((gxW W F own capG).puts (as x)) tt (p x)) (he : ∀ F x, (∀ q ∈ W.F, q ∈ F) → x ∈ xs → p x = true → Ev ((gxW W F own capG).puts (as x)) te tBl (f x))
    (hp : ∀ (W : Wd) x, (W.puts (as x)).H0 = W.H0 ∧ (W.puts (as x)).M = W.M ∧ (W.puts (as x)).S = W.S ∧ (W.puts (as x)).L = W.L ∧ (W.puts (as x)).F = W.F := by intros; exact ⟨rfl, rfl, rfl, rfl, rfl⟩) :
    Ev W (tGx P true wi g tt te own fr) tBl (xs.any fun x => p x && f x) := ev_is (ev_gx hP h tg hi hc ht he hp) any_res
end
end Cs
set_option maxHeartbeats 4000000
namespace Cs
open PySem PySem.Spec PyProof.Rows L2
/-! ### texts, by kinds -/
section
variable {α β γ : Type} {W : Wd} {K : PySem.W.Frag} {ta tb tc to : TE} {t : Ty α} {x : α} {z z' sep : Str} {i j : Int} {xs : List Str} {tl th : TO} {lo hi : Option Int}
theorem tyS {H : Hp} {v : V} (r : tSt.r H v z) : tyV K "str" v H := by
  obtain rfl : v = .str z := r
  rfl
/-- s.split(sep) -/
theorem ev_split (ha : Ev W ta tSt z) (hb : Ev W tb tSt sep) (h0 : (sep.length == 0) = false) (hl : z.length + 2 ≤ sizeLine) :
    Ev W (tBM K "str" (fun x xs H Q => ∃ a b, x = .str a ∧ xs = [.str b] ∧ (b.length == 0) = false ∧ a.length + 2 ≤ sizeLine ∧ rNewStrs (Txt.split a b) H Q) ta (tCons tb tNil)) (tLs K tSt) (Txt.split z sep) := fun σ H o Q q =>
  ha σ H o _ fun v H1 g1 r1 => ⟨tyS r1, hb σ H1 g1.ok _ fun v2 H2 g2 r2 => ⟨z, sep, r1, by rw [show v2 = .str sep from r2], h0, hl, fun p np => q _ _ ((g1.trans g2).trans (g2.ok.new np)) ⟨p, _, rfl, (by rw [hid_of (g2.ok.off np)]; exact upd_same), all2_str _ _⟩⟩⟩
theorem ev_rfind (ha : Ev W ta tSt z) (hb : Ev W tb tSt sep) : Ev W (tBM K "str" (fun x xs H Q => ∃ a b, x = .str a ∧ xs = [.str b] ∧ Q (.int (Txt.rfind a b)) H) ta (tCons tb tNil)) tInt (Txt.rfind z sep) := fun σ H o Q q =>
  ha σ H o _ fun v H1 g1 r1 => ⟨tyS r1, hb σ H1 g1.ok _ fun v2 H2 g2 r2 => ⟨z, sep, r1, by rw [show v2 = .str sep from r2], q _ H2 (g1.trans g2) rfl⟩⟩
/-- parts of a slice -/
def Eo (W : Wd) (tl : TO) (lo : Option Int) : Prop := ∀ σ H, Ok W σ H → ∀ Q : Option Int → Hp → Prop, (∀ H', Go1 W σ H H' → Q lo H') → tl σ H Q
theorem eo_none : Eo W tNoPart none := fun σ H o Q q => q H (Go1.refl o)
theorem eo_some (h : Ev W ta tInt i) : Eo W (tPart ta) (some i) := fun σ H o Q q => h σ H o _ fun v H1 g1 r1 => ⟨i, r1, q H1 g1⟩
theorem ev_sliceS (ha : Ev W ta tSt z) (hl : Eo W tl lo) (hh : Eo W th hi) (l : z.length ≤ sizeLine) : Ev W (tSl rSlS ta tl th) tSt (Txt.slice z lo hi) := fun σ H o Q q =>
  ha σ H o _ fun v H1 g1 r1 => hl σ H1 g1.ok _ fun H2 g2 => hh σ H2 g2.ok _ fun H3 g3 => ⟨z, r1, l, by rw [C8.cutS_slice]; exact q _ H3 ((g1.trans g2).trans g3) rfl⟩
theorem all2_cut {r : V → α → Prop} {vs : List V} {xs : List α} (h : All2 r vs xs) (lo hi : Option Int) : All2 r (cutV vs lo hi) ((xs.drop (HT.sIx xs.length 0 lo)).take (HT.sIx xs.length xs.length hi - HT.sIx xs.length 0 lo)) := by
  unfold cutV
  rw [h.length]
  exact (h.drop _).take _
/-- xs[lo:hi] -/
def cutL (xs : List α) (lo hi : Option Int) : List α := (xs.drop (HT.sIx xs.length 0 lo)).take (HT.sIx xs.length xs.length hi - HT.sIx xs.length 0 lo)
theorem ev_sliceL {xs : List α} (ha : Ev W ta (tLs K t) xs) (hl : Eo W tl lo) (hh : Eo W th hi) : Ev W (tSl (rSlL K) ta tl th) (tLs K t) (cutL xs lo hi) := fun σ H o Q q =>
  ha σ H o _ fun v H1 g1 r1 => hl σ H1 g1.ok _ fun H2 g2 => hh σ H2 g2.ok _ fun H3 g3 => by
    obtain ⟨p, vs, rfl, s, al⟩ := (tLs K t).mono (g2.trans g3).up r1
    exact ⟨p, vs, rfl, SqL.of (hid_sub _ _ s), fun l nl => q _ _ (((g1.trans g2).trans g3).trans (g3.ok.new nl)) ⟨l, _, rfl, (by rw [hid_of (g3.ok.off nl)]; exact upd_same), All2.mono (fun _ _ => t.mono (g3.ok.new nl).up) (all2_cut al lo hi)⟩⟩
theorem cutL_to {xs : List α} {n : Nat} : cutL xs none (some (n : Int)) = xs.take n := by
  unfold cutL HT.sIx
  simp only [List.drop_zero, Nat.sub_zero]
  rw [if_neg (by omega)]
  rcases Nat.le_total (n : Int).toNat xs.length with z | z
  · rw [Nat.min_eq_left z, Int.toNat_natCast]
  · rw [Nat.min_eq_right z, List.take_length, List.take_of_length_le (by simpa using z)]
theorem cutL_from {xs : List α} {n : Nat} : cutL xs (some (n : Int)) none = xs.drop n := by
  unfold cutL HT.sIx
  dsimp only
  rw [if_neg (by omega), Int.toNat_natCast]
  rcases Nat.le_total n xs.length with z | z
  · rw [Nat.min_eq_left z, List.take_of_length_le (by rw [List.length_drop]; exact Nat.le_refl _)]
  · rw [Nat.min_eq_right z, List.drop_length, List.drop_of_length_le z, List.take_nil]
theorem cutL_last {xs : List α} : cutL xs none (some (-1)) = xs.dropLast := by
  unfold cutL HT.sIx
  simp only [List.drop_zero, Nat.sub_zero]
  rw [if_pos (by omega), List.dropLast_eq_take]
  congr 1
  omega
theorem strs_ofT {H : Hp} {vs : List V} (al : All2 (tSt.r H) vs xs) : vs = xs.map V.str := All2.toMap V.str (fun v x e => e) al
/-- sep.join(xs) -/
theorem ev_join (ha : Ev W ta tSt sep) (hb : Ev W tb (tLs K tSt) xs) (hl : (xs.map (·.length)).sum + xs.length * sep.length ≤ 16777216) :
    Ev W (tBM K "str" (fun x xs H Q => ∃ a p, ∃ ys : List Str, x = .str a ∧ xs = [.ref p] ∧ (SqL K H p (ys.map V.str) ∨ SqT K H p (ys.map V.str)) ∧ (ys.map (·.length)).sum + ys.length * a.length ≤ 16777216 ∧ Q (.str (Txt.join a ys)) H) ta (tCons tb tNil)) tSt (Txt.join sep xs) := fun σ H o Q q =>
  ha σ H o _ fun v H1 g1 r1 => ⟨tyS r1, hb σ H1 g1.ok _ fun v2 H2 g2 ⟨p, vs, e, s, al⟩ => ⟨sep, p, xs, r1, by rw [e], .inl (by rw [← strs_ofT al]; exact SqL.of (hid_sub _ _ s)), hl, q _ H2 (g1.trans g2) rfl⟩⟩
/-- sep.join(elt for x in xs) -/
theorem ev_joinG {P : Addr} {Pz : Str → Prop} {f : Str → Str} (hP : tab P ∈ W.L) (ha : Ev W ta tSt sep) (hb : Ev W tb (tLs K tSt) xs) (hz : ∀ a ∈ xs, Pz a) (hj : JoinOk sep (xs.map f) = true) (hl : xs.length ≤ sizeLine) : Ev W (J1.tJoinG K P Pz f ta tb) tSt (Txt.join sep (xs.map f)) := fun σ H o Q q =>
  ha σ H o _ fun v H1 g1 r1 => ⟨sep, r1, hb σ H1 g1.ok _ fun v2 H2 g2 ⟨p, vs, e, s, al⟩ => ⟨p, xs, e, by rw [← strs_ofT al]; exact SqL.of (hid_sub _ _ s), hz, g2.ok.tabG hP, hj, hl, fun H3 zz => q _ H3 ((g1.trans g2).trans (g2.ok.tabbed hP zz)) rfl⟩⟩
/-- the signs of a text -/
def signs (z : Str) : List Str := z.cps.toList.map fun c => ⟨#[c]⟩
theorem iv_str (h : Ev W ta tSt z) : Iv W (iStr ta) tSt (signs z) := fun σ H o R q => h σ H o _ fun v H1 g1 r1 => by
  have e : (signs z).length = z.cps.size := by unfold signs; rw [List.length_map, Array.length_toList]
  refine ⟨z, r1, q _ _ ffT g1 trivial ⟨(fun i H v H' => H' = H ∧ ∃ c, z.cps[i]? = some c ∧ v = .str ⟨#[c]⟩), ?_, fun i H v H' S hi zz _ hy => ?_⟩⟩
  · rw [e]
    exact walk_str.mono (fun _ _ => trivial) fun i H v H' _ _ h => h
  · obtain ⟨e1, c, e2, e3⟩ := hy
    subst e1 e3
    refine ⟨Same.refl _, ⟨#[c]⟩, ?_, rfl⟩
    unfold signs
    rw [List.getElem?_map, Array.getElem?_toList, e2]; rfl
/-- a <= b of texts -/
theorem ev_leS {a b : Str} (ha : Ev W ta tSt a) (hb : Ev W tb tSt b) : Ev W (tOp (fun x y H Q => ∃ i j, x = .str i ∧ y = .str j ∧ Q (.bl (!decide (j.cps.toList < i.cps.toList))) H) ta tb) tBl (!decide (b.cps.toList < a.cps.toList)) := fun σ H o Q q =>
  ha σ H o _ fun v H1 g1 r1 => hb σ H1 g1.ok _ fun v2 H2 g2 r2 => ⟨a, b, r1, r2, q _ H2 (g1.trans g2) rfl⟩
/-- a <= b <= c of texts -/
theorem ev_leleS {a b c : Str} (ha : Ev W ta tSt a) (hb : Ev W tb tSt b) (hc : Ev W tc tSt c) :
    Ev W (tChain (fun x y H Q => ∃ i j, x = .str i ∧ y = .str j ∧ Q (.bl (!decide (j.cps.toList < i.cps.toList))) H) (fun x y H Q => ∃ i j, x = .str i ∧ y = .str j ∧ Q (.bl (!decide (j.cps.toList < i.cps.toList))) H) ta tb tc) tBl
      (!decide (b.cps.toList < a.cps.toList) && !decide (c.cps.toList < b.cps.toList)) := fun σ H o Q q =>
  ha σ H o _ fun v H1 g1 r1 => hb σ H1 g1.ok _ fun v2 H2 g2 r2 => ⟨a, b, r1, r2, _, rfl, by
    cases h : !decide (b.cps.toList < a.cps.toList) with
    | true =>
      rw [h] at q
      exact hc σ H2 g2.ok _ fun v3 H3 g3 r3 => ⟨b, c, r2, r3, q _ H3 ((g1.trans g2).trans g3) rfl⟩
    | false =>
      rw [h] at q
      exact q _ H2 (g1.trans g2) rfl⟩
end
/-- f'{x}..' in a generator: the word and a written text -/
theorem elt_fmtC {prog : Program} {w : World} {scope : Scope} {x c : Str} {j : Nat} {p1 p2 p3 p4 : Pos} (hk : scope.kind = .function) (hl : scope.names.lookup x = some .local) (hd : (x == ("__debug__" : Str)) = false := by decide) :
    J1.EltS prog w scope x (.JoinedStr [.FormattedValue (.Name x p1) (-1) none p2, .Constant (.str c) j p3] p4) (fun a => a.length + c.length ≤ sizeLine) (fun a => a ++ c) := by
  intro cenv A' E' a t s₂ m₂ hs hz hn hm
  have hk' : cenv.scope.kind = .function := by rw [hs]; exact hk
  have hl' : cenv.scope.names.lookup x = some .local := by rw [hs]; exact hl
  have e0 : (Str.empty ++ a : Str) = a := TL.ext_tl (by rw [TL.tl_append]; rfl)
  have la : a.length ≤ sizeLine := Nat.le_trans (Nat.le_add_right _ _) hz
  refine wpAny_JoinedStr ?_
  show wpAny _ _ (eval (.FormattedValue (.Name x p1) (-1) none p2) cenv) _ _ _
  refine wpAny_FormattedValue_plain (J1.ld_word hk' hl' hn hm hd ?_)
  have fin : ∀ (t1 : Tok) (k : Nat), ∃ y tk, Value.str a t1 = .str y tk ∧ (Str.empty ++ y).length ≤ sizeLine ∧ Joins (model prog w) A' E' [eval (.Constant (.str c) j p3) cenv] (Str.empty ++ y)
      (fun out s₁ => out.length ≤ sizeLine ∧ (∃ t', Value.str out s₁.toks = .str (a ++ c) t') ∧ Keeps s₂ { s₁ with toks := s₁.toks + 1 }) { s₂ with toks := k } := fun t1 k => by
    refine ⟨a, t1, rfl, by rw [e0]; exact la, ?_⟩
    rw [e0]
    refine Calls.Constant_str ⟨c, _, rfl, by rw [strLen_append]; exact hz, by rw [strLen_append]; exact hz, ⟨_, rfl⟩, ⟨s₂.heap, _, rfl, fun _ _ e => e⟩⟩
  exact wpAny_formatField_str (fin _ s₂.toks) (fin _ (s₂.toks + 1)) la
end Cs
namespace Cs
open PySem PySem.Spec PyProof.Rows L2
theorem cap0 {G : List (Option SF)} : CapOk G [] [] := ⟨rfl, fun j f q => by simp at q⟩
theorem cap1 {G : List (Option SF)} {n : Str} {k : Nat} {f : SF} (h : G[k]? = some (some f)) : CapOk G [(n, k)] [some f] := ⟨rfl, fun j g q => by
  match j, q with
  | 0, q => obtain rfl : f = g := by simpa using q
            exact ⟨_, rfl, h⟩
  | j + 1, q => simp at q⟩
theorem cap2 {G : List (Option SF)} {n n2 : Str} {k k2 : Nat} {f f2 : SF} (h : G[k]? = some (some f)) (h2 : G[k2]? = some (some f2)) : CapOk G [(n, k), (n2, k2)] [some f, some f2] := ⟨rfl, fun j g q => by
  match j, q with
  | 0, q => obtain rfl : f = g := by simpa using q
            exact ⟨_, rfl, h⟩
  | 1, q => obtain rfl : f2 = g := by simpa using q
            exact ⟨_, rfl, h2⟩
  | j + 2, q => simp at q⟩
def genC (scope : Scope) (x : Str) : Bool :=
  (match scope.kind with | .function => true | _ => false) && !scope.isCoroutine && (scope.names.all fun y => match y.2 with | .cell => false | .free => false | _ => true) && (match scope.names.lookup (".0" : Str) with | some .local => true | _ => false) && (match scope.names.lookup x with | some .local => true | _ => false)
theorem genS_by {env : Env} {scope sc : Scope} {x : Str} (h : genC scope x = true) : GxR.GenS env scope x := by
  unfold genC at h
  simp only [Bool.and_eq_true, List.all_eq_true, Bool.not_eq_true'] at h
  obtain ⟨⟨⟨⟨h1, h2⟩, h3⟩, h4⟩, h5⟩ := h
  refine ⟨?_, h2, fun y hy e => ?_, ?_, ?_, fun y hy e => ?_⟩
  · split at h1
    · assumption
    · cases h1
  · have := h3 y hy
    rw [e] at this
    cases this
  · split at h4
    · assumption
    · cases h4
  · split at h5
    · assumption
    · cases h5
  · have := h3 y hy
    rw [e] at this
    cases this
end Cs
set_option maxHeartbeats 4000000
namespace Cs
open PySem PySem.Spec PyProof.Rows L2
/-! ### defs whose code object is told -/
section
variable {P : Program} {w : World} {K : PySem.W.Frag} {mg : Str → Option Value} {base : Heap} {α β : Type}
theorem fun_okC {CX : CXT} {x qual : Str} {st : Stmt} {f c : Addr} {fd : FuncData} {N ps : List Str} {k : Nat} {sp : Sp} (F : Fun K x qual st f fd) (hc : fd.code = .ref c) (S : FnScope N ps (defScope st)) (len : ∀ vs H Q E, sp vs H Q E → vs.length = ps.length)
    (hbody : ∀ (A : Around) (outer : List Env) (s : Shared) (H : Hp) (vs : List V) (Q : VK) (E : XK), Room k (A.deeper (envOfC qual (defScope st) s.heap.objs.size f (.ref c))) → sp vs H Q E →
      ∃ t, PSs (cxOf CX P w K mg base N qual (defScope st) f (.ref c) A outer s H E) (defBody st) t ∧ t { nx := fun _ H' => Q .non H', rt := Q } (L2.start N vs) H) : FnOk P w K mg base CX (k + 1) f fd ps sp := by
  obtain ⟨oc, od, kV, doc, pm, an, cdv, ct, osl, rfl, lk, hcd⟩ := F.ex
  obtain rfl : cdv = .ref c := hc
  exact fn_of lk hcd S len hbody
theorem start_ok {N ps : List Str} {C : List RS} {A : List SF} {S : List Addr} {H : Hp} {vs : List V} (al : ∀ a ∈ S, H a ≠ none) (nd : (fps C).Nodup) (sub : ∀ a, a ∈ fps C → a ∈ S) (cc : RsAt C S H) (ft : Fits (hid S H) A vs) (hl : A.length = ps.length) : Ok ⟨H, fps C, S, C, [], A.map some ++ List.replicate (N.length - ps.length) none⟩ (L2.start N vs) H := by
  refine ⟨nd, fun a m => ⟨sub a m, .inl m⟩, cc, sub, al, Bt.refl, ?_, (fun f m => nomatch m), fun i f' q => start_slots (by rw [ft.length, hl]) ft q⟩
  have e1 := ft.length
  show (L2.start N vs).length = _
  unfold L2.start
  simp only [List.length_append, List.length_map, List.length_replicate]
  omega
theorem ok_NC {nm qual : Str} {st : Stmt} {f c : Addr} {fd : FuncData} {N ps : List Str} {k : Nat} {C : α → List RS} {A : α → List SF} {wt : Ty β} {pre : α → Prop} {post : α → β → Prop}
    (F : Fun K nm qual st f fd) (hc : fd.code = .ref c) (S : FnScope N ps (defScope st)) (hl : ∀ x, (A x).length = ps.length)
    (body : ∀ (A' : Around) (outer : List Env) (s : Shared) (H0 : Hp) (S : List Addr) (x : α) (Q : VK) (E : XK), Room k (A'.deeper (envOfC qual (defScope st) s.heap.objs.size f (.ref c))) → pre x → Rt (C x) S H0 wt (post x) Q →
      ∃ t, PSs (cxOf CX0 P w K mg base N qual (defScope st) f (.ref c) A' outer s H0 E).nox (defBody st) t ∧ Go ⟨H0, fps (C x), S, C x, [], (A x).map some ++ List.replicate (N.length - ps.length) none⟩ t { nx := fun _ H' => Q .non H', rt := Q }) :
    FnOk P w K mg base CX0 (k + 1) f fd ps (spN C A wt pre post) := by
  refine fun_okC F hc S (fun vs H Q E h => ?_) (fun A' outer s H vs Q E hr h => ?_)
  · obtain ⟨S', x, _, _, _, _, ft, _⟩ := h
    rw [ft.length, hl]
  · obtain ⟨S', x, al, nd, sub, cc, ft, hp, out⟩ := h
    obtain ⟨t, h1, h2⟩ := body A' outer s H S' x Q E hr hp (fun v y H' => out v y H')
    exact ⟨t, h1.nox, h2 _ _ (start_ok al nd sub cc ft (hl x))⟩
/-- a def that raises C() -/
theorem ok_E0C {nm qual : Str} {st : Stmt} {f c : Addr} {fd : FuncData} {N ps : List Str} {k : Nat} {C : α → List RS} {A : α → List SF} {pre : α → Prop} {CE : Addr}
    (F : Fun K nm qual st f fd) (hc : fd.code = .ref c) (S : FnScope N ps (defScope st)) (hl : ∀ x, (A x).length = ps.length)
    (body : ∀ (A' : Around) (outer : List Env) (s : Shared) (H0 : Hp) (S : List Addr) (x : α) (Q : VK) (E : XK), Room k (A'.deeper (envOfC qual (defScope st) s.heap.objs.size f (.ref c))) → pre x → (∀ σ F G, Flies0 ⟨H0, fps (C x), S, C x, F, G⟩ σ CE E) →
      ∃ t, PSs (cxOf (L2.CX P w) P w K mg base N qual (defScope st) f (.ref c) A' outer s H0 E) (defBody st) t ∧ Go ⟨H0, fps (C x), S, C x, [], (A x).map some ++ List.replicate (N.length - ps.length) none⟩ t { nx := fun _ H' => Q .non H', rt := Q }) :
    FnOk P w K mg base (L2.CX P w) (k + 1) f fd ps (spE0 C A pre CE) := by
  refine fun_okC F hc S (fun vs H Q E h => ?_) (fun A' outer s H vs Q E hr h => ?_)
  · obtain ⟨S', x, _, _, _, _, ft, _⟩ := h
    rw [ft.length, hl]
  · obtain ⟨S', x, al, nd, sub, cc, ft, hp, out⟩ := h
    obtain ⟨t, h1, h2⟩ := body A' outer s H S' x Q E hr hp fun σ F' G H' o => out H' o.bt (fun a m => o.al a (sub a m)) o.at_
    exact ⟨t, h1, h2 _ _ (start_ok al nd sub cc ft (hl x))⟩
/-- a def that raises C(e) -/
theorem ok_EC {nm qual : Str} {st : Stmt} {f c : Addr} {fd : FuncData} {N ps : List Str} {k : Nat} {C : α → List RS} {A : α → List SF} {pre : α → Prop} {CE : Addr} {flds : α → List (Str × SF)}
    (F : Fun K nm qual st f fd) (hc : fd.code = .ref c) (S : FnScope N ps (defScope st)) (hl : ∀ x, (A x).length = ps.length)
    (body : ∀ (A' : Around) (outer : List Env) (s : Shared) (H0 : Hp) (S : List Addr) (x : α) (Q : VK) (E : XK), Room k (A'.deeper (envOfC qual (defScope st) s.heap.objs.size f (.ref c))) → pre x → (∀ σ F G, Flies ⟨H0, fps (C x), S, C x, F, G⟩ σ CE (flds x) E) →
      ∃ t, PSs (cxOf (L2.CX P w) P w K mg base N qual (defScope st) f (.ref c) A' outer s H0 E) (defBody st) t ∧ Go ⟨H0, fps (C x), S, C x, [], (A x).map some ++ List.replicate (N.length - ps.length) none⟩ t { nx := fun _ H' => Q .non H', rt := Q }) :
    FnOk P w K mg base (L2.CX P w) (k + 1) f fd ps (spE C A pre CE flds) := by
  refine fun_okC F hc S (fun vs H Q E h => ?_) (fun A' outer s H vs Q E hr h => ?_)
  · obtain ⟨S', x, _, _, _, _, ft, _⟩ := h
    rw [ft.length, hl]
  · obtain ⟨S', x, al, nd, sub, cc, ft, hp, out⟩ := h
    obtain ⟨t, h1, h2⟩ := body A' outer s H S' x Q E hr hp fun σ F' G d fs H' o hd hf => out d fs H' o.bt (fun a m => o.al a (sub a m)) o.at_ hd hf
    exact ⟨t, h1, h2 _ _ (start_ok al nd sub cc ft (hl x))⟩
/-- what the written part has of a def, its code object told -/
def FunGC (K : PySem.W.Frag) (mg : Str → Option Value) (x : Str) (st : Stmt) (ps : List Str) (c : Addr) : Prop :=
  ∃ (f : Addr) (fd : FuncData), Fun K x x st f fd ∧ fd.code = .ref c ∧ mg x = some (.ref f) ∧ Binds K fd ps []
theorem Cal.ofC {x : Str} {st : Stmt} {ps : List Str} {k : Nat} {sp : Sp} {c : Addr} (F : FunGC K mg x st ps c) (h : ∀ {f : Addr} {fd : FuncData}, Fun K x x st f fd → fd.code = .ref c → FnOk P w K mg base CX0 k f fd ps sp) : Cal P w K mg base k x ps sp := by
  obtain ⟨f, fd, F, hc, g, b⟩ := F
  exact ⟨f, fd, h F hc, g, F.kp, b⟩
theorem CalX.ofC {x : Str} {st : Stmt} {ps : List Str} {k : Nat} {sp : Sp} {c : Addr} (F : FunGC K mg x st ps c) (h : ∀ {f : Addr} {fd : FuncData}, Fun K x x st f fd → fd.code = .ref c → FnOk P w K mg base (L2.CX P w) k f fd ps sp) : CalX P w K mg base k x ps sp := by
  obtain ⟨f, fd, F, hc, g, b⟩ := F
  exact ⟨f, fd, h F hc, g, F.kp, b⟩
end
/-! ### the end, with tables -/
def tbOf (K : PySem.W.Frag) (x : Str) : Addr × Addr := (PySem.W.tabIn K x).getD (0, 0)
theorem FunGC.mk {K : PySem.W.Frag} {mg : Str → Option Value} {h : Heap} {x : Str} {st : Stmt} {ps : List Str} {f : Addr} {od an : Option Addr} {sl : Array (Option Value)} {oc kV dc pm cd ct : Value}
    (hb : ∀ (kV doc pm : Value) (an : Option Addr) (cdv ct : Value) (us : List Value), us.length = ps.length → bindArgs (PySem.W.fnOf x x (defArgs st) (defBody st) (defScope st) .none kV doc pm an cdv ct) ⟨us, []⟩ = pure (ps.zip us)) (X : K.In h) (G : h.Ns mainGlobals mg)
    (a : PySem.W.nsIn K mainGlobals x = some (some (.ref f))) (l : K.lookup f = some ⟨oc, od, .func (PySem.W.fnOf x x (defArgs st) (defBody st) (defScope st) .none kV dc pm an cd ct), sl⟩) (c : PySem.W.codeIn K cd x = true) (k : PySem.W.keepIn K (.ref f) = true) (t : cd = .ref (tbOf K x).1) : FunGC K mg x st ps (tbOf K x).1 :=
  have F := fun_mk (st := st) l c k
  ⟨f, _, F, t, PySem.W.mg_of X G a, F.binds hb⟩
/-- what is known of the tables of the defs ts -/
def TabsIn (K : PySem.W.Frag) (p : Program) (ts : List Str) : Prop := ∀ x ∈ ts, ((recsOf p).find? (fun e => e.name == x)).isSome = true ∧ PySem.W.tabIn K x = some (tbOf K x) ∧ K.lookup (tbOf K x).2 = none
theorem walk_ofG {l : PySem.W.OpenLaw} {n k : Nat} {q : Program} {loose : List Str} {XP : (Str → Option Value) → Heap → Prop} {YP : World → Heap → Prop} {d : DefRec} {K : Params → PySem.W.Frag} {CX : World → CXT} {sp : World → Sp} {x : Str} (ts : List Str)
    (hn : l.most = some n) (hn2 : n ≤ sizeLine) (hdf : d.params.defaults = []) (hr : Room k callerA) (hY : ∀ (w : World) (h : Heap), YP w h → (K w.params).In h) (hts : ∀ w : World, TabsIn (K w.params) q ts)
    (F : ∀ (w : World) (mg : Str → Option Value) (fa : Addr) (h : Heap), (K w.params).In h → h.Ns mainGlobals mg → mg d.name = some (.ref fa) →
      ∃ fd : FuncData, (∀ (s : Shared) (u : Value), BindsTo s fd ⟨[u], []⟩ [(x, u)]) ∧
        ∀ base : Heap, (K w.params).In base → base.Ns mainGlobals mg → (∀ y ∈ ts, GxR.TabB base mg (tbOf (K w.params) y).1 (tbOf (K w.params) y).2) → FnOk l.prog w (K w.params) mg base (CX w) k fa fd [x] (sp w))
    (hsp : ∀ (w : World) (H : Hp) (a : Addr) (ns : List Int), ns.length ≤ n → (∀ z ∈ ns, Builtin.Int.intBits z ≤ 1048576) → (∀ y ∈ ts, H (tbOf (K w.params) y).2 = some (.tbl #[])) → SqL (K w.params) H a (ns.map V.int) → sp w [.ref a] H (fun v _ => v = .bl true) fun _ _ _ => False)
    (hCX : ∀ (w : World) (H : Hp) (s : Shared) (e : Value) (s' : Shared), CX w [] H s (fun _ _ _ => False) e s' → False) :
    PySem.W.WalkO q loose XP YP l.row.toRowW d [] (fun f vs => PySem.call f vs) := by
  refine Att.attach_callB hn hdf fun w s₀ s₁ mg mb fa o pm cd doc a vs ns G Y ho hd hcd hmg hobj hints hlen hbits hg => ?_
  have KX := hY w _ Y
  obtain ⟨fd, hb, hF⟩ := F w mg fa _ KX G.T.g hmg
  have tabs : ∀ y ∈ ts, PySem.W.CodeHd s₁.heap (tbOf (K w.params) y).1 (tbOf (K w.params) y).2 ∧ s₁.heap.get? (tbOf (K w.params) y).2 = some { cls := .none, data := .fields #[] } := fun y hy => by
    obtain ⟨h1, h2, _⟩ := hts w y hy
    obtain ⟨r, hr⟩ := Option.isSome_iff_exists.mp h1
    exact PySem.W.tab_of G.T KX hr h2
  refine LamX.law_callTs (cs := ts.map (tbOf (K w.params))) KX G.T.g G.T.b G.T.builtins G.T.nolimit hg (fun p hp => ?_) (fun p hp => ?_) (fun p hp => ?_) G.T.bmain hobj hints (Nat.le_trans hlen hn2) hr (fun base h1 h2 h3 => hF base h1 h2 fun y hy => ?_) hb (fun H hH hS => hsp w H a ns hlen hbits (fun y hy => hH _ (List.mem_map.mpr ⟨y, hy, rfl⟩)) hS) fun H e s' => hCX w H s₁ e s'
  · obtain ⟨y, hy, rfl⟩ := List.mem_map.mp hp
    exact (tabs y hy).2
  · obtain ⟨y, hy, rfl⟩ := List.mem_map.mp hp
    exact (hts w y hy).2.2
  · obtain ⟨y, hy, rfl⟩ := List.mem_map.mp hp
    exact (tabs y hy).1
  · obtain ⟨z1, z2, z3⟩ := h3 _ (List.mem_map.mpr ⟨y, hy, rfl⟩)
    exact ⟨z1, z2, z3⟩
/-- what a law is asked whose defs have tables -/
abbrev spLawG (K : PySem.W.Frag) (Ps : List Addr) : Sp := spN (fun _ => Ps.map tab) (fun ns : List Int => [(tSc K).is ns]) tBl (fun _ => True) (fun _ y => y = true)
theorem fps_tabs (Ps : List Addr) : fps (Ps.map tab) = Ps := by
  induction Ps with
  | nil => rfl
  | cons p l ih =>
    show [p] ++ fps (l.map tab) = _
    rw [ih]; rfl
theorem spG_in {K : PySem.W.Frag} {H : Hp} {a : Addr} {ns : List Int} {Q : VK} {E : XK} {Ps : List Addr} (nd : Ps.Nodup) (hP : ∀ P ∈ Ps, H P = some (.tbl #[])) (hS : SqL K H a (ns.map V.int)) (q : ∀ H', Q (.bl true) H') : spLawG K Ps [.ref a] H Q E := by
  refine ⟨Ps, ns, fun b m => by rw [hP b m]; exact fun z => (by cases z), by rw [fps_tabs]; exact nd, fun b m => by rw [fps_tabs] at m; exact m, fun r m => ?_, ⟨⟨a, rfl, ?_⟩, trivial⟩, trivial, fun v y H' py _ _ _ r => ?_⟩
  · obtain ⟨p, hp, rfl⟩ := List.mem_map.mp m
    exact ⟨_, hP p hp, #[], rfl, trivial⟩
  · rcases hS with (hS | ⟨o, hS⟩) | hS
    · exact .inl (.inl (by rw [hid_of (fun z => by rw [hP a z] at hS; cases hS)]; exact hS))
    · exact .inl (.inr ⟨o, by rw [hid_of (fun z => by rw [hP a z] at hS; cases hS)]; exact hS⟩)
    · exact .inr hS
  · rw [show v = .bl y from r, show y = true from py]
    exact q H'
/-- the laws' own: the tables of the defs ts -/
abbrev tbsOf (K : PySem.W.Frag) (ts : List Str) : List Addr := ts.map fun y => (tbOf K y).2
abbrev spLawTs (K : PySem.W.Frag) (ts : List Str) : Sp := spLawG K (tbsOf K ts)
theorem walk_tabs {l : PySem.W.OpenLaw} {n k : Nat} {q : Program} {loose : List Str} {XP : (Str → Option Value) → Heap → Prop} {YP : World → Heap → Prop} {d : DefRec} {K : Params → PySem.W.Frag} {x : Str} (ts : List Str)
    (hn : l.most = some n) (hn2 : n ≤ sizeLine) (hdf : d.params.defaults = []) (hr : Room k callerA) (hY : ∀ (w : World) (h : Heap), YP w h → (K w.params).In h) (hts : ∀ w : World, TabsIn (K w.params) q ts) (hnd : ∀ w : World, (tbsOf (K w.params) ts).Nodup)
    (F : ∀ (w : World) (mg : Str → Option Value) (fa : Addr) (h : Heap), (K w.params).In h → h.Ns mainGlobals mg → mg d.name = some (.ref fa) →
      ∃ fd : FuncData, (∀ (s : Shared) (u : Value), BindsTo s fd ⟨[u], []⟩ [(x, u)]) ∧
        ∀ base : Heap, (K w.params).In base → base.Ns mainGlobals mg → (∀ y ∈ ts, GxR.TabB base mg (tbOf (K w.params) y).1 (tbOf (K w.params) y).2) → FnOk l.prog w (K w.params) mg base CX0 k fa fd [x] (spLawTs (K w.params) ts)) :
    PySem.W.WalkO q loose XP YP l.row.toRowW d [] (fun f vs => PySem.call f vs) :=
  walk_ofG (CX := fun _ => CX0) (sp := fun w => spLawTs (K w.params) ts) ts hn hn2 hdf hr hY hts F (fun w H a ns hl _ hT hS => spG_in (hnd w) (fun P hP => by
    obtain ⟨y, hy, rfl⟩ := List.mem_map.mp hP
    exact hT y hy) hS fun _ => rfl) (fun _ _ _ _ _ h => h)
end Cs
set_option maxHeartbeats 4000000
namespace Cs
open PySem PySem.Spec PyProof.Rows L2
/-! ### a parameter that is a def is called; what it raises is wished for at the slots -/
def tCv (i : Nat) (f : Addr) (sp : Sp) (E : L2.St → XK) (t : TA) : TE := fun σ H Q => σ[i]? = some (some (.ref f)) ∧ t σ H fun vs H1 => sp vs H1 Q (E σ)
section
variable {X : Cx} {CX : CXT} {k i : Nat} {f : Addr} {fd : FuncData} {ps : List Str} {sp : Sp} {E : L2.St → XK} {x : Str} {p pos : Pos} {e : Expr} {es : List Expr} {t : TA}
theorem pe_cv (F : FnOk X.prog X.w X.K X.mg X.base CX k f fd ps sp) (hr : Room k X.A) (hN : X.N[i]? = some x) (hv : Vis X.env.scope x) (kp : PySem.W.keepIn X.K (.ref f) = true) (b : Binds X.K fd ps []) (hx : ∀ σ, PassesAt CX X σ (E σ)) (ha : PA X (e :: es) t)
    (hdb : (x == ("__debug__" : Str)) = false := by decide) (hcd : (x == ("__classdict__" : Str)) = false := by decide)
    (he : starEach (e :: es) X.env = (false, eval e X.env) :: starEach es X.env := by rfl) (hpl : (backTo pos (starEach es X.env)).any (·.1) = false := by rfl) : PE X (.Call (.Name x p) (e :: es) [] pos) (tCv i f sp E t) := ⟨fun pins s σ H Q I h => by
  obtain ⟨hs, ht⟩ := h
  refine wpAny_Call_Name_kw (thn ((pe_var (pos := p) hN hv hdb hcd).run pins s σ H (fun v H1 => v = .ref f ∧ H1 = H) I ⟨.ref f, hs, rfl, rfl⟩) fun u s1 ⟨v, H1, I1, r1, q1⟩ => ?_)
  obtain ⟨rfl, rfl⟩ := q1
  cases r1
  exact PySem.W.callWith_K (h₀ := X.base) I.ok.mod.kin kp (thn (ha.run pos pins s1 σ _ _ I1 ht) fun us s2 ⟨vs, H2, I2, r, q⟩ => ⟨I2.kIn, run_fnS F hr b (hx σ) I2 r q⟩) he hpl⟩
end
section
variable {α β γ : Type} {W : Wd} {K : PySem.W.Frag} {ar : TA} {i : Nat} {f CE : Addr} {E : XK} {EE : L2.St → XK} {C : γ → List RS} {A : γ → List SF} {w : Ty β} {pre : γ → Prop} {z : γ}
theorem sub_of {σ : L2.St} {H : Hp} {L : List RS} (o : Ok W σ H) (hC : L.Sublist W.L) : ∀ a, a ∈ fps L → a ∈ W.S := fun a m => by
  obtain ⟨r, m1, m2⟩ := of_fps m
  exact (o.own a (mem_fps (hC.subset m1) m2)).1
theorem evx_cv0 (hs : W.G[i]? = some (some (tRf.is f))) (h : Ea W ar (A z)) (hp : pre z) (fl : ∀ σ, Flies0 W σ CE (EE σ)) (hC : (C z).Sublist W.L) : Evx W (tCv i f (spE0 C A pre CE) EE ar) w (fun _ => False) := fun σ H o Q q => by
  obtain ⟨v, h1, rfl⟩ := o.slots i _ hs
  exact ⟨h1, h σ H o _ fun vs H1 g1 r1 => ⟨W.S, z, g1.ok.al, (fps_sub hC).nodup g1.ok.nod, sub_of g1.ok hC, fun r m => g1.ok.at_ r (hC.subset m), r1, hp, fun H2 bt al c => fl σ H2 (g1.ok.after (fun r m => hC.subset m) bt al c).ok⟩⟩
/-- a call that raises C() inside a def that raises -/
theorem evx_call00 (h : Ea W ar (A z)) (hp : pre z) (fl : ∀ σ, Flies0 W σ CE E) (hC : (C z).Sublist W.L) : Evx W (tCall (spE0 C A pre CE) [] E ar) w (fun _ => False) := fun σ H o Q q => h σ H o _ fun vs H1 g1 r1 =>
  ⟨W.S, z, g1.ok.al, (fps_sub hC).nodup g1.ok.nod, sub_of g1.ok hC, fun r m => g1.ok.at_ r (hC.subset m), by rw [List.append_nil]; exact r1, hp, fun H2 bt al c => fl σ H2 (g1.ok.after (fun r m => hC.subset m) bt al c).ok⟩
/-- a call of a def of several promises -/
theorem evx_callI {sp : Sp} {post : γ → β → Prop} (imp : ∀ vs H Q E, spN C A w pre post vs H Q E → sp vs H Q E) (h : Ea W ar (A z)) (hp : pre z) (hC : (C z).Sublist W.L) : Evx W (tCall sp [] E ar) w (post z) := fun σ H o Q q => h σ H o _ fun vs H1 g1 r1 =>
  imp _ _ _ _ ⟨W.S, z, g1.ok.al, (fps_sub hC).nodup g1.ok.nod, sub_of g1.ok hC, fun r m => g1.ok.at_ r (hC.subset m), by rw [List.append_nil]; exact r1, hp, fun v y H2 py b al c r => q v y H2 py (g1.trans (g1.ok.after (fun r m => hC.subset m) b al c)) r⟩
end
section
variable {α : Type} {W : Wd} {K : PySem.W.Frag} {ta tb : TE} {t : Ty α} {z z' : Str} {i : Nat} {D : Ends} {P R : Str → Prop}
/-- texts one behind the other -/
theorem ev_addS (ha : Ev W ta tSt z) (hb : Ev W tb tSt z') (h : z.length + z'.length ≤ sizeLine) : Ev W (tOp (fun x y H Q => ∃ i j, x = .str i ∧ y = .str j ∧ i.length + j.length ≤ sizeLine ∧ Q (.str (i ++ j)) H) ta tb) tSt (z ++ z') := fun σ H o Q q =>
  ha σ H o _ fun v H1 g1 r1 => hb σ H1 g1.ok _ fun v2 H2 g2 r2 => ⟨z, z', r1, r2, h, q _ H2 (g1.trans g2) rfl⟩
theorem evx_addS (ha : Ev W ta tSt z) (hb : Evx W tb tSt P) (h : ∀ y, P y → z.length + y.length ≤ sizeLine) (k : ∀ y, P y → R (z ++ y)) : Evx W (tOp (fun x y H Q => ∃ i j, x = .str i ∧ y = .str j ∧ i.length + j.length ≤ sizeLine ∧ Q (.str (i ++ j)) H) ta tb) tSt R := fun σ H o Q q =>
  ha σ H o _ fun v H1 g1 r1 => hb σ H1 g1.ok _ fun v2 y H2 py g2 r2 => ⟨z, y, r1, r2, h y py, q _ _ H2 (k y py) (g1.trans g2) rfl⟩
theorem go_setx1 {Pa : α → Prop} (h : Evx W ta t Pa) (k : ∀ x, Pa x → ∀ σ H, Ok (W.at i (t.is x)) σ H → D.nx σ H) : Go W (tAsg ta (gName i)) D := fun σ H o => h σ H o _ fun v x H1 p g r => k x p _ _ (g.ok.put r)
/-- a slot whose kind is not told -/
theorem ea_slot {f : SF} (h : W.G[i]? = some (some f)) : Ea W (tCons (tVar i) tNil) [f] := fun σ H o Q q => by
  obtain ⟨v, h1, h2⟩ := o.slots i _ h
  exact ⟨v, h1, q [v] H (Go1.refl o) ⟨h2, trivial⟩⟩
theorem ev_ref {a : Addr} : Ev W (tC (.ref a)) tRf a := fun σ H o Q q => q _ H (Go1.refl o) rfl
end
end Cs
set_option maxHeartbeats 4000000
namespace Cs
open PySem PySem.Spec PySem.Calls PyProof.Rows PySem.W
/-! ### isinstance of a caught error that bears attributes -/
section
variable {prog : Program} {w : World} {A : Around} {E : Value → Shared → Prop} {s : Shared} {K : PySem.W.Frag} {x D : Addr} {ox : Obj} {od : Option Obj}
theorem clsObj_any {C : Addr} {nm : Str} {at_ gt : Value} (c0 : (clsIn K C).isSome = true) (c1 : findIn K (.ref C) nm = some (some at_)) (c2 : specialIn K at_ "__get__" = some (some gt)) (c3 : takesIn K at_ = some true) : findObj K C od nm = some (.bind gt at_) := by
  obtain ⟨cls, c0⟩ := Option.isSome_iff_exists.mp c0
  unfold findObj
  rw [c0, Option.bind_some, c1, Option.bind_some]
  simp [c2, c3]
theorem seesClass {Q : Option Value → Shared → Prop} (C : L2.ExcC K D) (KI : K.In s.heap) (IA : InstAt s.heap x ox D od) (goal : Q (some (.ref D)) { s with toks := s.toks + 1 }) : wpAny (model prog w) A (getAttr? (.ref x) "__class__") Q E s := by
  have fo : findObj K D od "__class__" = some (.bind (.builtin "getset_descriptor.__get__") (.builtin "object.__class__")) := clsObj_any (by obtain ⟨cd, hc, _⟩ := any_some C.hd; rw [hc]; rfl) C.ha C.hn C.ht
  obtain ⟨hp, gs, dr, tk, osv⟩ := s
  have K0 := IA.type (M := model prog w)
  have K1 := looks_findIn (M := model prog w) KI C.hg
  have K2 := looks_findIn (M := model prog w) KI C.hk
  have K3 := looks_find (M := model prog w) KI IA fo
  have isE : Looks (model prog w) hp (isInstance (.ref x) (.type "BaseException")) true := K0.andThen (looks_subIn KI C.hs)
  have n0 : (false && onTheHeap (Value.builtin "BaseException.__getattribute__")) = false := rfl
  have n1 : (onTheHeap (Value.ref D) && Value.builtin "BaseException.__getattribute__" == Value.builtin "object.__getattribute__") = false := by
    rw [show (Value.builtin "BaseException.__getattribute__" == Value.builtin "object.__getattribute__") = false by decide +kernel]; rfl
  unfold getAttr? getAttrBy? getAttrBy
  refine wpAny_bind (wpAny_mkText (wpAny_bind (wpAny_attempt (wpAny_holding (wpAny_bind (K0.at (wpAny_bind (K1.at ?_))))))))
  show wpAny _ _ (if (onTheHeap (Value.ref D) && Value.builtin "BaseException.__getattribute__" == Value.builtin "object.__getattribute__") = true then _ else _) _ _ _
  rw [n1, if_neg Bool.false_ne_true]
  unfold getAttrByItsOwn hookBefore
  refine wpAny_bind ?_
  rw [if_pos (show onTheHeap (Value.ref D) = true from rfl)]
  refine K2.at (wpAny_bind (wpAny_attempt (wpAny_holding ?_)))
  unfold callGetattribute
  rw [n0, if_neg Bool.false_ne_true]
  unfold boundAndCalled
  rw [PySem.F.excAttr_ValueError.ga.bind (.ref x)]
  refine wpAny_bind (wpAny_pure ?_)
  show wpAny _ _ (call (.builtin "BaseException.__getattribute__") [.ref x, .str "__class__" tk]) _ _ _
  refine wpAny_call (codeAny_call_builtin PySem.F.excAttr_ValueError.ga.plain PySem.F.entry_bexc_ga ?_)
  refine @check_slot (model prog w) _ _ ⟨hp, gs, dr, tk + 1, osv⟩ "BaseException.__getattribute__" "BaseException" "__getattribute__" (.ref x) [.str "__class__" tk] [] _ (by decide +kernel) (by decide +kernel) isE (PySem.F.args_bexc_ga (.ref x) (.str "__class__" tk)) ?_
  unfold Builtin.«object.__getattribute__»
  refine wpAny_bind (wpAny_of_eq (a := ((Value.ref x : Value), [Value.str "__class__" tk])) (by first | rfl | (simp only [slotArgs]; rfl)) ?_)
  refine wpAny_bind (wpAny_pure (wpAny_bind (K0.at (wpAny_bind (K3.at ?_)))))
  show wpAny _ _ (holding [Value.builtin "object.__class__"] (call (.builtin "getset_descriptor.__get__") [.builtin "object.__class__", .ref x, .ref D]) >>= ret) _ _ _
  refine wpAny_bind (wpAny_holding (wpAny_call (class_get (s := ⟨hp, gs, dr, tk + 1, osv⟩) (ox := ox) (od := od) KI IA C.hm (wpAny_pure ?_))))
  show wpAny _ _ (handedOut (.ref D)) _ _ _
  rw [handedOut_of (v := .ref D) rfl]
  first
    | exact wpAny_pure (wpAny_pure goal)
    | exact wpAny_pure goal
    | exact wpAny_pure (wpAny_bind (wpAny_pure (wpAny_pure goal)))
theorem kitEx (C : L2.ExcC K D) : KitX K (.ref x) (.ref D) (fun h => InstAt h x ox D od) := by
  obtain ⟨cdD, hcD, _⟩ := any_some C.hd
  have cl : ∃ c' d' cd' sl', K.lookup D = some ⟨c', d', .cls cd', sl'⟩ := by
    unfold clsIn at hcD
    split at hcD
    · exact ⟨_, _, _, _, by assumption⟩
    · cases hcD
  obtain ⟨c', d', cd', sl', ho⟩ := cl
  refine ⟨fun _ _ _ I => I.type, fun _ _ X _ => ?_, fun h tp dd its n sl X htp => ?_, fun X I k => seesClass C X I k⟩
  · intro A1 Q1 E1 s1 k q
    unfold isType loadHead
    exact wpAny_bind (wpAny_loadPart (k _ _ (X _ _ ho)) (wpAny_pure q))
  · refine Bool.eq_false_iff.mpr fun q => ?_
    obtain rfl : D = tp := Value.ref.inj (beq_iff_eq.mp q)
    have z := (X _ _ ho).symm.trans htp
    cases z
end
end Cs
namespace Cs
open PySem PySem.Spec PyProof.Rows L2
/-- isinstance(e, c), e the caught error: its class is told when it is asked -/
def rIsD (K : PySem.W.Frag) (cls : Value) (d : Option Addr) (a : Addr) : List V → Hp → VK → Prop := fun xs H Q => ∃ (D : Addr) (c : V) (cv : Value) (b : Bool), cls = .ref D ∧ ExcC K D ∧ xs = [.ref a, c] ∧ (∀ u, RelV c u → u = cv) ∧ PySem.W.kitOne K (.ref D) cv = some b ∧
  (∀ dd, d = some dd → ∃ fs, H dd = some (.xd fs)) ∧ Q (.bl b) H
theorem call_isD {X : Cx} {a : Addr} {oe : Obj} {cls : Value} {d : Option Addr} {pn : List (Addr × Obj)} (hz : Zc cls d oe) (hf : ∃ vs, oe.data = .fields vs) : CallR (X.suite a ((a, oe) :: pn)) (.builtin "isinstance") (rIsD X.K cls d a) := by
  intro pins s σ H xs us Q I r h
  obtain ⟨D, c, cv, b, rfl, C, rfl, hcv, e, hd, q⟩ := h
  obtain ⟨u1, us1, rfl, rx, rr⟩ : ∃ u1 us1, us = u1 :: us1 ∧ RelV (.ref a) u1 ∧ Vals [c] us1 := by cases r with | cons a b => exact ⟨_, _, rfl, a, b⟩
  obtain ⟨u2, rfl, rt⟩ : ∃ u2, us1 = [u2] ∧ RelV c u2 := by cases rr with | cons a b => cases b; exact ⟨_, rfl, a⟩
  obtain rfl : u1 = Value.ref a := rx
  obtain rfl := hcv _ rt
  obtain ⟨hget, _⟩ := I.pin (a, oe) (List.mem_append.mpr (.inl List.mem_cons_self))
  obtain ⟨vs, hv⟩ := hf
  obtain ⟨od, J⟩ : ∃ od, PySem.W.InstAt s.heap a oe D od := by
    cases d with
    | none => exact ⟨none, hget, hz.1, by unfold PySem.W.notCls; rw [hv], by rw [hz.2]; trivial⟩
    | some dd =>
      obtain ⟨fs, ea⟩ := hd dd rfl
      obtain ⟨mA, hns, _⟩ := (show ObjOk X.prog X.w H s.heap dd (.xd fs) from I.hok dd _ ea)
      obtain ⟨od, ho, _⟩ := lookIn_ns hns
      exact ⟨some od, hget, hz.1, by unfold PySem.W.notCls; rw [hv], by rw [hz.2]; exact ho⟩
  exact PySem.W.kia_one (kitEx C) I.kIn J e (fun z => nomatch z) fun tk => ⟨.bl b, H, I.kept (t' := tk) fun _ _ z => z, rfl, q⟩
end Cs
namespace Cs
open PySem PySem.Spec PyProof.Rows L2
/-! ### fractions as texts -/
def sgn (i : Int) : List Nat := (if i < 0 then [45] else []) ++ TL.numL i.natAbs
theorem tl_int (i : Int) : TL.tl (Str.ofString (toString i)) = sgn i := by
  cases i with
  | ofNat n =>
    show TL.tl (Str.ofString (toString ((n : Nat) : Int))) = _
    rw [TL.tl_num]
    unfold sgn
    rw [if_neg (by simp)]
    rfl
  | negSucc n =>
    have e : toString (Int.negSucc n) = "-" ++ toString (((n + 1 : Nat)) : Int) := rfl
    rw [e, TL.tl_ofString, String.toList_append, List.map_append]
    have e2 : (toString ((n + 1 : Nat) : Int)).toList.map Char.toNat = TL.numL (n + 1) := by rw [← TL.tl_ofString, TL.tl_num]
    rw [e2]
    unfold sgn
    rw [if_pos (Int.negSucc_lt_zero n)]
    rfl
theorem int_S (i : Int) : Str.ofString (toString i) = SX.S (sgn i) := TL.ext_tl (tl_int i)
/-- behind the sign -/
def den47 (d : Nat) : List Nat := if d = 1 then [] else 47 :: TL.numL d
def shL (r : Rat) : List Nat := sgn r.num ++ den47 r.den
def shT (r : Rat) : Str := SX.S (shL r)
def dg (c : Nat) : Bool := decide (48 ≤ c) && decide (c ≤ 57)
def isD (z : Str) : Bool := (decide (1 ≤ z.length) && decide (z.length ≤ 12)) && z.cps.toList.all dg
theorem dg_iff {c : Nat} : dg c = true ↔ 48 ≤ c ∧ c ≤ 57 := by
  unfold dg
  rw [Bool.and_eq_true, decide_eq_true_eq, decide_eq_true_eq]
theorem numL_dg (n : Nat) : ∀ c ∈ TL.numL n, 48 ≤ c ∧ c ≤ 57 := TL.numL_digits n
theorem numL_all (n : Nat) : (TL.numL n).all dg = true := List.all_eq_true.mpr fun c m => dg_iff.mpr (numL_dg n c m)
theorem tl_slash : TL.tl ("/" : Str) = [47] := by decide +kernel
theorem tl_minus : TL.tl ("-" : Str) = [45] := by decide +kernel
theorem sl_S : ("/" : Str) = SX.S [47] := TL.ext_tl tl_slash
theorem mi_S : ("-" : Str) = SX.S [45] := TL.ext_tl tl_minus
/-! without the sign -/
def unneg : List Nat → List Nat
  | 45 :: t => t
  | l => l
theorem unneg_ne {l : List Nat} (h : l.head? ≠ some 45) : unneg l = l := by
  unfold unneg
  split
  · exact absurd rfl h
  · rfl
theorem subAt_S (z : Str) : PySem.Builtin.Str.subAt z "-" 0 = decide (z.cps.toList.head? = some 45) := by
  rw [StrLaws.subAt_eq]
  have e : ("-" : Str).cps.toList = [45] := tl_minus
  have l : ("-" : Str).length = 1 := rfl
  rw [e, l, List.drop_zero]
  cases z.cps.toList with
  | nil => rfl
  | cons c t =>
    rw [List.take_succ_cons, List.take_zero, List.head?_cons]
    by_cases h : c = 45
    · subst h; rfl
    · rw [decide_eq_false (by simpa using h)]
      simpa using h
theorem pre_S (z : Str) : Txt.removeprefix z "-" = SX.S (unneg z.cps.toList) := by
  rw [StrLaws.removeprefix_eq, subAt_S]
  have l : ("-" : Str).length = 1 := rfl
  have lz : z.length = z.cps.toList.length := TL.len_tl z
  rw [l, lz]
  cases e : z.cps.toList with
  | nil => rw [if_neg (by simp)]; exact TL.ext_tl e
  | cons c t =>
    by_cases h : c = 45
    · subst h
      rw [if_pos (by simp)]
      refine TL.ext_tl ?_
      show ((45 :: t).drop 1).take _ = unneg (45 :: t)
      simp [unneg]
    · rw [if_neg (by simp [h])]
      refine TL.ext_tl ?_
      show z.cps.toList = unneg (c :: t)
      rw [unneg_ne (by simpa using h), e]
theorem sw_S (z : Str) : Txt.startswith z "-" = decide (z.cps.toList.head? = some 45) := by
  have l : ("-" : Str).length = 1 := rfl
  have e : Txt.startswith z "-" = PySem.Builtin.Str.subAt z "-" 0 := by
    show (decide (0 + ("-" : Str).length ≤ z.length) && PySem.Builtin.Str.subAt z "-" 0) = _
    rw [subAt_S]
    cases h : z.cps.toList with
    | nil => simp
    | cons c t =>
      have : z.length = (c :: t).length := by rw [TL.len_tl, ← h]
      rw [l, this]
      simp
  rw [e, subAt_S]
def rowsT (z : Str) : List Str := Txt.split (Txt.removeprefix z "-") "/"
theorem rows_S (z : Str) : rowsT z = (TL.spl [47] 0 [] (unneg z.cps.toList)).map SX.S := by
  unfold rowsT
  rw [pre_S, sl_S, SX.split_S (by simp) (by decide)]
def dv (z : Str) : Int := (NumText.digitsVal z.cps.toList : Nat)
theorem dv_read {z : Str} (h : isD z = true) : intText? z = some (dv z) ∧ z.length ≤ 640 := by
  unfold isD at h
  rw [Bool.and_eq_true, Bool.and_eq_true, decide_eq_true_eq, decide_eq_true_eq] at h
  obtain ⟨⟨h1, h2⟩, h3⟩ := h
  refine ⟨intText_digits (fun c m => dg_iff.mp (List.all_eq_true.mp h3 c m)) (fun e => ?_) (by omega), by omega⟩
  rw [TL.len_tl] at h1
  rw [show TL.tl z = [] from e] at h1
  simp at h1
theorem dv_lt {l : List Nat} {k : Nat} (h : ∀ c ∈ l, 48 ≤ c ∧ c ≤ 57) (hl : l.length ≤ k) : NumText.digitsVal l < 10 ^ k := by
  induction k generalizing l with
  | zero =>
    obtain rfl : l = [] := List.length_eq_zero_iff.mp (Nat.le_zero.mp hl)
    decide
  | succ k ih =>
    rcases List.eq_nil_or_concat l with rfl | ⟨a, c, rfl⟩
    · exact Nat.pow_pos (by decide)
    · rw [List.concat_eq_append] at h hl ⊢
      rw [NumText.digitsVal_snoc, Nat.pow_succ]
      rw [List.length_append, List.length_singleton] at hl
      have h1 := ih (l := a) (fun x m => h x (List.mem_append_left _ m)) (by omega)
      have h2 := h c (List.mem_append_right _ (List.mem_singleton.mpr rfl))
      omega
theorem dv_bd {z : Str} (h : isD z = true) : 0 ≤ dv z ∧ dv z < 10 ^ 12 := by
  unfold isD at h
  rw [Bool.and_eq_true, Bool.and_eq_true, decide_eq_true_eq, decide_eq_true_eq] at h
  obtain ⟨⟨h1, h2⟩, h3⟩ := h
  have := dv_lt (l := z.cps.toList) (k := 12) (fun c m => dg_iff.mp (List.all_eq_true.mp h3 c m)) (by rw [← TL.len_tl]; exact h2)
  unfold dv
  have e : (10 : Int) ^ 12 = ((10 ^ 12 : Nat) : Int) := by decide
  rw [e]
  exact ⟨Int.natCast_nonneg _, Int.ofNat_lt.mpr this⟩
/-- the fraction that the rows tell -/
def frT (ns : List Int) : Rat := match ns with
  | [] => 0
  | [p] => (p : Rat)
  | p :: q :: _ => Rat.divInt p q
def signT (z : Str) (r : Rat) : Rat := if Txt.startswith z "-" = true then -r else r
def rdT (z : Str) : Option Rat :=
  if (decide ((rowsT z).length > 2) || !((rowsT z).all isD)) = true then none
  else if decide ((0 : Int) ∈ ((rowsT z).map dv).drop 1) = true then none
  else if shT (signT z (frT ((rowsT z).map dv))) = z then some (signT z (frT ((rowsT z).map dv))) else none
theorem numL_free {n s : Nat} (h : s < 48 ∨ 57 < s) : s ∉ TL.numL n := TL.numL_free h
theorem numL_head {n : Nat} : ∃ c t, TL.numL n = c :: t ∧ 48 ≤ c ∧ c ≤ 57 := by
  cases e : TL.numL n with
  | nil => exact absurd e (TL.numL_ne n)
  | cons c t => exact ⟨c, t, rfl, numL_dg n c (by rw [e]; exact List.mem_cons_self ..)⟩
theorem numL_lead {n : Nat} (h : 0 < n) : ∃ c t, TL.numL n = c :: t ∧ 49 ≤ c ∧ c ≤ 57 := by
  induction n using Nat.strongRecOn with
  | _ n ih =>
    by_cases h10 : n < 10
    · exact ⟨48 + n, [], TL.numL_lt h10, by omega, by omega⟩
    · obtain ⟨c, t, e, h1, h2⟩ := ih (n / 10) (by omega) (by omega)
      exact ⟨c, t ++ [48 + n % 10], by rw [TL.numL_step (by omega), e]; rfl, h1, h2⟩
theorem isD_num {n : Nat} (h : n < 10 ^ 12) : isD (SX.S (TL.numL n)) = true := by
  unfold isD
  rw [SX.S_len, Bool.and_eq_true, Bool.and_eq_true, decide_eq_true_eq, decide_eq_true_eq]
  refine ⟨⟨?_, TL.numL_len (by decide) h⟩, numL_all n⟩
  obtain ⟨c, t, e, _⟩ := @numL_head n
  rw [e]; simp
theorem dv_num (n : Nat) : dv (SX.S (TL.numL n)) = n := by
  show ((NumText.digitsVal (TL.numL n) : Nat) : Int) = n
  rw [TL.numL_val]
theorem unneg_sh (r : Rat) : unneg (shL r) = TL.numL r.num.natAbs ++ den47 r.den := by
  unfold shL sgn
  by_cases h : r.num < 0
  · rw [if_pos h]; rfl
  · rw [if_neg h]
    obtain ⟨c, t, e, h1, h2⟩ := @numL_head r.num.natAbs
    rw [List.nil_append]
    refine unneg_ne ?_
    rw [e]
    simp
    omega
theorem sw_sh (r : Rat) : Txt.startswith (shT r) "-" = decide (r.num < 0) := by
  rw [sw_S]
  show decide ((shL r).head? = some 45) = _
  unfold shL sgn
  by_cases h : r.num < 0
  · rw [if_pos h, decide_eq_true h]; rfl
  · rw [if_neg h, decide_eq_false h]
    obtain ⟨c, t, e, h1, h2⟩ := @numL_head r.num.natAbs
    rw [List.nil_append, e]
    exact decide_eq_false (by simp; omega)
theorem rows_sh (r : Rat) : rowsT (shT r) = if r.den = 1 then [SX.S (TL.numL r.num.natAbs)] else [SX.S (TL.numL r.num.natAbs), SX.S (TL.numL r.den)] := by
  rw [rows_S]
  show (TL.spl [47] 0 [] (unneg (shL r))).map SX.S = _
  rw [unneg_sh]
  unfold den47
  by_cases h : r.den = 1
  · rw [if_pos h, if_pos h, List.append_nil, TL.spl_last1 (numL_free (by omega))]; rfl
  · rw [if_neg h, if_neg h]
    have e := TL.spl_part1 (s := 47) (S := []) (p := TL.numL r.num.natAbs) (rest := TL.numL r.den) (acc := []) (numL_free (by omega))
    rw [show (47 :: TL.numL r.den) = ([47] ++ TL.numL r.den) from rfl, e, TL.spl_last1 (numL_free (by omega))]
    rfl
theorem rat_mk (r : Rat) : Rat.divInt r.num r.den = r := Rat.num_divInt_den r
theorem neg_back (r : Rat) : (if r.num < 0 then -(Rat.divInt (r.num.natAbs : Int) r.den) else Rat.divInt (r.num.natAbs : Int) r.den) = r := by
  split
  · rename_i h
    have : -((r.num.natAbs : Nat) : Int) = r.num := by omega
    rw [Rat.neg_divInt, this, rat_mk]
  · rename_i h
    have : ((r.num.natAbs : Nat) : Int) = r.num := by omega
    rw [this, rat_mk]
theorem fr_sh (r : Rat) : frT ((rowsT (shT r)).map dv) = Rat.divInt (r.num.natAbs : Int) r.den := by
  rw [rows_sh]
  by_cases hd : r.den = 1
  · rw [if_pos hd, List.map_cons, List.map_nil, dv_num, hd]
    exact (rat_mk ((r.num.natAbs : Int) : Rat)).symm
  · rw [if_neg hd, List.map_cons, List.map_cons, List.map_nil, dv_num, dv_num]
    rfl
theorem rd_show {r : Rat} (h1 : r.num.natAbs < 10 ^ 12) (h2 : r.den < 10 ^ 12) : rdT (shT r) = some r := by
  have c1 : (decide ((rowsT (shT r)).length > 2) || !((rowsT (shT r)).all isD)) = false := by
    rw [rows_sh]
    split
    · simp [isD_num h1]
    · simp [isD_num h1, isD_num h2]
  have c2 : decide ((0 : Int) ∈ ((rowsT (shT r)).map dv).drop 1) = false := by
    rw [rows_sh]
    split
    · simp
    · simp only [List.map_cons, List.map_nil, dv_num, List.drop_succ_cons, List.drop_zero, List.mem_singleton]
      exact decide_eq_false (by have := r.den_pos; omega)
  unfold rdT
  rw [c1, if_neg Bool.false_ne_true, c2, if_neg Bool.false_ne_true, fr_sh]
  unfold signT
  rw [sw_sh]
  simp only [decide_eq_true_eq]
  rw [neg_back, if_pos rfl]
theorem rd_spec {z : Str} {r : Rat} (h : rdT z = some r) : shT r = z := by
  unfold rdT at h
  split at h
  · cases h
  · split at h
    · cases h
    · split at h
      · rename_i e
        rw [← Option.some.inj h]
        exact e
      · cases h
theorem num_le {p q : Int} (hq : 0 < q) : (Rat.divInt p q).num.natAbs ≤ p.natAbs ∧ (Rat.divInt p q).den ≤ q.natAbs := by
  obtain ⟨h1, h2⟩ := divInt_pos p q hq
  refine ⟨?_, ?_⟩
  · rw [h1]
    exact Int.natAbs_ediv_le_natAbs _ _
  · have : ((Rat.divInt p q).den : Int) ≤ q := by
      rw [h2]
      exact Int.ediv_le_self _ (by omega)
    omega
theorem fr_bd {ns : List Int} (h : ∀ n ∈ ns, 0 ≤ n ∧ n < 10 ^ 12) (h0 : decide ((0 : Int) ∈ ns.drop 1) = false) : (frT ns).num.natAbs < 10 ^ 12 ∧ (frT ns).den < 10 ^ 12 := by
  match ns with
  | [] => exact ⟨by decide, by decide⟩
  | [p] =>
    have := h p (List.mem_cons_self ..)
    have e : (10 : Int) ^ 12 = 1000000000000 := by decide
    rw [e] at this
    have e2 : (10 : Nat) ^ 12 = 1000000000000 := by decide
    rw [e2]
    show ((p : Rat)).num.natAbs < _ ∧ ((p : Rat)).den < _
    rw [Rat.num_intCast, Rat.den_intCast]
    exact ⟨by omega, by decide⟩
  | p :: q :: t =>
    have h1 := h p (List.mem_cons_self ..)
    have h2 := h q (List.mem_cons_of_mem _ (List.mem_cons_self ..))
    have e : (10 : Int) ^ 12 = 1000000000000 := by decide
    rw [e] at h1 h2
    have e2 : (10 : Nat) ^ 12 = 1000000000000 := by decide
    rw [e2]
    have q0 : 0 < q := by
      have : ¬ (0 : Int) ∈ ((p :: q :: t).drop 1) := of_decide_eq_false h0
      have : q ≠ 0 := fun z => this (by rw [z]; simp)
      omega
    show (Rat.divInt p q).num.natAbs < _ ∧ (Rat.divInt p q).den < _
    have := @num_le p q q0
    omega
theorem rd_bd {z : Str} {r : Rat} (h : rdT z = some r) : r.num.natAbs < 10 ^ 12 ∧ r.den < 10 ^ 12 := by
  unfold rdT at h
  split at h
  · cases h
  · rename_i c1
    split at h
    · cases h
    · rename_i c2
      split at h
      · have c1 : (decide ((rowsT z).length > 2) || !((rowsT z).all isD)) = false := Bool.eq_false_iff.mpr c1
        rw [Bool.or_eq_false_iff, Bool.not_eq_false'] at c1
        have b := fr_bd (ns := (rowsT z).map dv) (fun n m => by
          obtain ⟨y, hy, rfl⟩ := List.mem_map.mp m
          exact dv_bd (List.all_eq_true.mp c1.2 y hy)) (Bool.eq_false_iff.mpr c2)
        rw [← Option.some.inj h]
        unfold signT
        split
        · rw [Rat.neg_num, Rat.neg_den, Int.natAbs_neg]; exact b
        · exact b
      · cases h
/-- a text that no small fraction has is not read -/
theorem rd_none {z : Str} (h : ∀ r : Rat, r.num.natAbs < 10 ^ 12 → r.den < 10 ^ 12 → shL r ≠ z.cps.toList) : rdT z = none := by
  cases e : rdT z with
  | none => rfl
  | some r =>
    obtain ⟨h1, h2⟩ := rd_bd e
    have := rd_spec e
    exact absurd (congrArg (fun x : Str => x.cps.toList) this) (h r h1 h2)
end Cs
namespace Cs
open PySem PySem.Spec PyProof.Rows L2
/-! ### texts that no fraction has -/
theorem den47_mem {d c : Nat} (h : c ∈ den47 d) : c = 47 ∨ (48 ≤ c ∧ c ≤ 57) := by
  unfold den47 at h
  split at h
  · cases h
  · rcases List.mem_cons.mp h with h | h
    · exact .inl h
    · exact .inr (numL_dg d c h)
theorem shL_mem {r : Rat} {c : Nat} (h : c ∈ shL r) : c = 45 ∨ c = 47 ∨ (48 ≤ c ∧ c ≤ 57) := by
  unfold shL sgn at h
  rcases List.mem_append.mp h with h | h
  · rcases List.mem_append.mp h with h | h
    · split at h
      · exact .inl (List.mem_singleton.mp h)
      · cases h
    · exact .inr (.inr (numL_dg _ c h))
  · exact .inr (den47_mem h)
theorem odd_none {z : Str} {c : Nat} (m : c ∈ z.cps.toList) (h1 : c ≠ 45) (h2 : c ≠ 47) (h3 : c < 48 ∨ 57 < c) : rdT z = none := rd_none fun r _ _ e => by
  rw [← e] at m
  rcases shL_mem m with h | h | h
  · exact h1 h
  · exact h2 h
  · omega
theorem shL_tail {r : Rat} : 45 ∉ (shL r).tail := by
  intro m
  have num : ∀ c, c ∈ TL.numL r.num.natAbs ++ den47 r.den → c ≠ 45 := fun c m e => by
    subst e
    rcases List.mem_append.mp m with m | m
    · have := numL_dg _ _ m; omega
    · rcases den47_mem m with h | h <;> omega
  unfold shL sgn at m
  split at m
  · exact num 45 m rfl
  · exact num 45 (List.mem_of_mem_tail m) rfl
theorem minus_none {z : Str} (m : 45 ∈ z.cps.toList.tail) : rdT z = none := rd_none fun r _ _ e => by
  rw [← e] at m
  exact shL_tail m
theorem shL_head {r : Rat} : (shL r).head? ≠ some 47 := by
  unfold shL sgn
  split
  · intro h; cases h
  · obtain ⟨c, t, e, h1, h2⟩ := @numL_head r.num.natAbs
    rw [List.nil_append, e]
    intro h
    injection h with h
    omega
theorem slash_none {z : Str} (m : z.cps.toList.head? = some 47) : rdT z = none := rd_none fun r _ _ e => by
  rw [← e] at m
  exact shL_head m
theorem count_numL (n : Nat) : (TL.numL n).count 47 = 0 := List.count_eq_zero.mpr (numL_free (by omega))
theorem shL_count {r : Rat} : (shL r).count 47 ≤ 1 := by
  unfold shL sgn den47
  rw [List.count_append, List.count_append, count_numL]
  have e1 : (if r.num < 0 then [45] else []).count 47 = 0 := by split <;> rfl
  rw [e1]
  split
  · simp
  · rw [List.count_cons_self, count_numL]
    exact Nat.le_refl _
theorem two_none {z : Str} (m : 1 < z.cps.toList.count 47) : rdT z = none := rd_none fun r _ _ e => by
  rw [← e] at m
  exact absurd (@shL_count r) (by omega)
theorem zero_none {c : Nat} {t : List Nat} {z : Str} (e : z.cps.toList = 48 :: c :: t) (hc : c ≠ 47) : rdT z = none := rd_none fun r _ _ h => by
  rw [e] at h
  unfold shL sgn at h
  split at h
  · injection h with h _
    omega
  · rename_i hn
    rw [List.nil_append] at h
    by_cases h0 : r.num.natAbs = 0
    · have z0 : r.num = 0 := by omega
      have r0 : r = 0 := Rat.num_eq_zero.mp z0
      subst r0
      rw [show TL.numL (0 : Rat).num.natAbs = [48] from TL.numL_lt (by decide), show den47 (0 : Rat).den = [] from rfl] at h
      cases h
    · obtain ⟨c', t', e', h1, h2⟩ := @numL_lead r.num.natAbs (by omega)
      rw [e'] at h
      injection h with h _
      omega
theorem cut_same : ∀ {p q x y : List Nat}, 47 ∉ p → 47 ∉ q → p ++ 47 :: x = q ++ 47 :: y → p = q ∧ x = y
  | [], [], x, y, _, _, h => ⟨rfl, by injection h⟩
  | [], c :: q, x, y, _, hq, h => by
    injection h with h _
    exact absurd (h ▸ List.mem_cons_self ..) hq
  | c :: p, [], x, y, hp, _, h => by
    injection h with h _
    exact absurd (h ▸ List.mem_cons_self ..) hp
  | c :: p, d :: q, x, y, hp, hq, h => by
    injection h with h1 h2
    obtain ⟨e1, e2⟩ := cut_same (fun m => hp (List.mem_cons_of_mem _ m)) (fun m => hq (List.mem_cons_of_mem _ m)) h2
    exact ⟨by rw [h1, e1], e2⟩
theorem den_none {z : Str} {n : Nat} {x : List Nat} (e : z.cps.toList = TL.numL n ++ 47 :: x) (hx : ∀ d, 0 < d → d ≠ 1 → TL.numL d ≠ x) : rdT z = none := rd_none fun r _ _ h => by
  rw [e] at h
  obtain ⟨c, t, en, c1, c2⟩ := @numL_head n
  have f1 : 47 ∉ sgn r.num := by
    unfold sgn
    intro m
    rcases List.mem_append.mp m with m | m
    · split at m
      · have := List.mem_singleton.mp m; omega
      · cases m
    · exact numL_free (by omega) m
  have f2 : 47 ∉ TL.numL n := numL_free (by omega)
  unfold shL den47 at h
  split at h
  · rw [List.append_nil] at h
    exact f1 (by rw [h]; exact List.mem_append_right _ (List.mem_cons_self ..))
  · rename_i hd
    obtain ⟨_, h2⟩ := cut_same f1 f2 h
    exact hx r.den r.den_pos hd h2
/-! the law's own rows -/
def badRows (t d : Str) : List Str := ["", "-", "+" ++ t, " " ++ t, t ++ " ", "--" ++ t, "-0", "0" ++ d, "-00", d ++ "/", "/" ++ d, d ++ "/0", d ++ "/1", "-0/3", "6/4", "0/7", d ++ "/2/3", d ++ "/-2", t ++ "a", "2.5", "1_0", "1" ++ "000000000000", "1/1" ++ "000000000000", "x", "-/2", t ++ "\n", "1 /2", "-3/-7"]
theorem tl_cat (a b : Str) : (a ++ b).cps.toList = a.cps.toList ++ b.cps.toList := TL.tl_append a b
theorem bad_none {t : Str} {n : Nat} : ∀ z ∈ badRows t (SX.S (TL.numL n)), rdT z = none := by
  obtain ⟨c, l, en, c1, c2⟩ := @numL_head n
  have num : (SX.S (TL.numL n)).cps.toList = TL.numL n := rfl
  have cc : ∀ k, ∀ z : Str, z.cps.toList = [k] → (k < 48 ∨ 57 < k) → k ≠ 45 → k ≠ 47 → ∀ u, rdT (z ++ u) = none ∧ rdT (u ++ z) = none := fun k z e h1 h2 h3 u =>
    ⟨odd_none (c := k) (by rw [tl_cat, e]; simp) h2 h3 h1, odd_none (c := k) (by rw [tl_cat, e]; simp) h2 h3 h1⟩
  unfold badRows
  simp only [List.forall_mem_cons]
  refine ⟨by decide +kernel, by decide +kernel, ?_, ?_, ?_, ?_, by decide +kernel, ?_, by decide +kernel, ?_, ?_, ?_, ?_, by decide +kernel, by decide +kernel, by decide +kernel, ?_, ?_, ?_, by decide +kernel, by decide +kernel, by decide +kernel, by decide +kernel, by decide +kernel, by decide +kernel, ?_, by decide +kernel, by decide +kernel, fun z m => nomatch m⟩
  · exact (cc 43 "+" (by decide +kernel) (by omega) (by omega) (by omega) t).1
  · exact (cc 32 " " (by decide +kernel) (by omega) (by omega) (by omega) t).1
  · exact (cc 32 " " (by decide +kernel) (by omega) (by omega) (by omega) t).2
  · refine minus_none ?_
    rw [tl_cat, show ("--" : Str).cps.toList = [45, 45] by decide +kernel]
    simp
  · refine zero_none (c := c) (t := l) ?_ (by omega)
    rw [tl_cat, num, en, show ("0" : Str).cps.toList = [48] by decide +kernel]; rfl
  · refine den_none (n := n) (x := []) ?_ fun d _ _ => TL.numL_ne d
    rw [tl_cat, num, show ("/" : Str).cps.toList = [47] by decide +kernel]
  · refine slash_none ?_
    rw [tl_cat, show ("/" : Str).cps.toList = [47] by decide +kernel]; rfl
  · refine den_none (n := n) (x := [48]) ?_ fun d h _ e => ?_
    · rw [tl_cat, num, show ("/0" : Str).cps.toList = [47, 48] by decide +kernel]
    · have : TL.numL d = TL.numL 0 := by rw [e]; exact (TL.numL_lt (n := 0) (by decide)).symm
      have := TL.numL_inj this
      omega
  · refine den_none (n := n) (x := [49]) ?_ fun d _ h e => ?_
    · rw [tl_cat, num, show ("/1" : Str).cps.toList = [47, 49] by decide +kernel]
    · have : TL.numL d = TL.numL 1 := by rw [e]; exact (TL.numL_lt (n := 1) (by decide)).symm
      exact h (TL.numL_inj this)
  · refine two_none ?_
    rw [tl_cat, num, show ("/2/3" : Str).cps.toList = [47, 50, 47, 51] by decide +kernel, List.count_append, count_numL]
    decide
  · refine minus_none ?_
    rw [tl_cat, num, en, show ("/-2" : Str).cps.toList = [47, 45, 50] by decide +kernel]
    simp
  · exact (cc 97 "a" (by decide +kernel) (by omega) (by omega) (by omega) t).2
  · exact (cc 10 "\n" (by decide +kernel) (by omega) (by omega) (by omega) t).2
theorem shL_len {r : Rat} (h1 : r.num.natAbs < 10 ^ 12) (h2 : r.den < 10 ^ 12) : (shL r).length ≤ 26 := by
  unfold shL sgn den47
  have a := TL.numL_len (k := 12) (by decide) h1
  have b := TL.numL_len (k := 12) (by decide) h2
  split <;> split <;> simp only [List.length_append, List.length_cons, List.length_nil] <;> omega
end Cs
set_option maxHeartbeats 4000000
namespace Cs
open PySem PySem.Spec PyProof.Rows L2
/-! ### numbers and texts, by kinds -/
theorem none_at {K : PySem.W.Frag} {h : Heap} {a : Addr} {m : Str → Option Value} {n : Str} (KI : K.In h) (ns : h.Ns a m) (e : PySem.W.nsIn K a n = some none) : m n = none := by
  obtain ⟨ob, es, ep, at_, dt, _, find⟩ := ns
  unfold PySem.W.nsIn at e
  split at e
  · rename_i z1 z2 z3 z4 z5 here
    have two := KI _ _ here
    rw [at_] at two
    cases two
    cases dt
    split at e
    · cases e
    · rename_i gone
      rw [← find]
      unfold nsFind findBy
      rw [← Array.find?_toList, gone]
      rfl
  · cases e
theorem rep_size (z : Array Nat) : ∀ (n : Nat) (b : Array Nat), ((List.replicate n z).foldl (· ++ ·) b).size = b.size + n * z.size
  | 0, b => by simp
  | n + 1, b => by
    rw [List.replicate_succ, List.foldl_cons, rep_size z n, Array.size_append, Nat.succ_mul]
    omega
section
variable {X : Cx}
/-- str(i), i of up to 4300 digits -/
theorem call_strAny (hh : X.A.handled = none) (hD : PySem.W.nsIn X.K cStatics "sys.int_max_str_digits" = some none) : CallR X (.type "str") (fun xs H Q => ∃ i : Int, xs = [.int i] ∧ i.natAbs < 10 ^ 4300 ∧ Q (.str (toString i)) H) := by
  intro pins s σ H xs us Q I r h
  obtain ⟨i, rfl, hz, q⟩ := h
  obtain ⟨u, rfl, ru⟩ : ∃ u, us = [u] ∧ RelV (.int i) u := by cases r with | cons a b => cases b; exact ⟨_, rfl, a⟩
  obtain ⟨t, rfl⟩ := ru
  obtain ⟨mc, ns, _⟩ := I.nolimit
  have hn : s.heap.NoDigits := ⟨mc, ns, none_at I.kIn ns hD⟩
  exact str_of_int_or hh hn (fun _ => ⟨.str _, H, I.tok _, ⟨_, rfl⟩, q⟩) fun z => absurd hz (Nat.not_lt.mpr z)
/-- a text so many times -/
theorem op_mulS : OpR X (binaryOp .Mult) (fun x y H Q => ∃ (z : Str) (n : Nat), x = .str z ∧ y = .int (n : Int) ∧ z.length * n ≤ 1000000 ∧ z.length ≤ 1000000 ∧ n ≤ 1000000 ∧ 2 ≤ n ∧ 1 ≤ z.length ∧ Q (.str ⟨(List.replicate n z.cps).foldl (· ++ ·) #[]⟩) H) := by
  intro pins s σ H x y v u Q I rx ry h
  obtain ⟨z, n, rfl, rfl, h1, h2, h3, h4, h5, q⟩ := h
  obtain ⟨t, rfl⟩ := rx
  obtain ⟨t', rfl⟩ := ry
  have e1 : ((n : Int) == 1) = false := beq_eq_false_iff_ne.mpr (by omega)
  have e2 : (z.length == 0) = false := beq_eq_false_iff_ne.mpr (by omega)
  refine PySem.P.mul_str ?_ (fun _ _ => ?_) (fun _ _ => ?_) ?_
  · rw [decide_eq_false (by omega), decide_eq_false (by omega)]; rfl
  · have h9 : (2 ^ 63 - 1) / (n : Int) ≥ 1000000 := by
      rw [ge_iff_le, Int.le_ediv_iff_mul_le (by omega)]
      omega
    omega
  · show decide (z.length * ((n : Int).toNat) > sizeLine) = false
    rw [Int.toNat_natCast]
    exact decide_eq_false (by have : (1000000 : Nat) ≤ sizeLine := by decide
                              omega)
  · rw [if_neg (by omega), e1, e2]
    rw [if_neg (by simp)]
    rw [Int.toNat_natCast]
    exact ⟨by
      show ((List.replicate n z.cps).foldl (· ++ ·) #[]).size ≤ sizeLine
      rw [rep_size]
      have : (1000000 : Nat) ≤ sizeLine := by decide
      have e : z.cps.size = z.length := rfl
      rw [e, Nat.mul_comm n]
      show (0 : Nat) + _ ≤ _
      omega, ⟨.str _, H, I.tok _, ⟨_, rfl⟩, q⟩⟩
end
/-! a def called with a list of its arguments -/
def CalSt (P : Program) (w : World) (K : PySem.W.Frag) (mg : Str → Option Value) (base : Heap) (k : Nat) (x : Str) (ps : List Str) (dvs : List V) (sp : Sp) : Prop :=
  ∃ (f : Addr) (fd : FuncData) (ds : List Value), FnOk P w K mg base CX0 k f fd ps sp ∧ mg x = some (.ref f) ∧ PySem.W.keepIn K (.ref f) = true ∧ Binds K fd ps [] ∧ Binds K fd ps ds ∧ Vals dvs ds
theorem CalSt.ofD {P : Program} {w : World} {K : PySem.W.Frag} {mg : Str → Option Value} {base : Heap} {x : Str} {st : Stmt} {ps : List Str} {k : Nat} {sp : Sp} {dvs : List V} (F : FunDG K mg x st ps dvs) (h : ∀ {f : Addr} {fd : FuncData}, FunD K x x (defArgs st) (defBody st) (defScope st) dvs [] f fd → FnOk P w K mg base CX0 k f fd ps sp) : CalSt P w K mg base k x ps dvs sp := by
  obtain ⟨f, fd, ds, F, g, kp, b, bd, vd⟩ := F
  exact ⟨f, fd, ds, h F, g, kp, b, bd, vd⟩
theorem CalSt.mono {P : Program} {w : World} {K : PySem.W.Frag} {mg : Str → Option Value} {base : Heap} {x : Str} {ps : List Str} {j k : Nat} {sp : Sp} {dvs : List V} (c : CalSt P w K mg base j x ps dvs sp) (h : j ≤ k) : CalSt P w K mg base k x ps dvs sp := by
  obtain ⟨f, fd, ds, F, g⟩ := c
  exact ⟨f, fd, ds, F.mono h, g⟩
def tCallSt (K : PySem.W.Frag) (sp : Sp) (dvs : List V) (te : TE) : TE := fun σ H Q => te σ H fun y H1 => ∃ (p : Addr) (xs : List V), y = .ref p ∧ (SqT K H1 p xs ∨ SqL K H1 p xs) ∧ (sp xs H1 Q E0 ∨ sp (xs ++ dvs) H1 Q E0)
section
variable {X : Cx} {k : Nat} {x : Str} {ps : List Str} {sp : Sp} {dvs : List V} {e : Expr} {te : TE} {p sp_ pos : Pos}
/-- x(*y) -/
theorem pe_callSt (c : CalSt X.prog X.w X.K X.mg X.base k x ps dvs sp) (hr : Room k X.A) (hg : Gl X x) (he : PE X e te) (hdb : (x == ("__debug__" : Str)) = false := by decide) : PE X (.Call (.Name x p) [.Starred e sp_] [] pos) (tCallSt X.K sp dvs te) := by
  obtain ⟨f, fd, ds, F, g, kp, b0, b1, vd⟩ := c
  refine ⟨fun pins s σ H Q I h => wpAny_Call_Name_kw (ld_glob I hg g ?_ hdb)⟩
  refine PySem.W.callWith_S (h₀ := X.base) I.ok.mod.kin kp (thn (he.run pins s σ H _ I h) fun v s1 ⟨y, H1, I1, ry, a, xs, ey, hx, q⟩ => ?_)
  subst ey
  obtain rfl : v = Value.ref a := ry
  refine StX.star_any I1 hx fun us s2 I2 rv => ⟨I2.kIn, ?_⟩
  rcases q with q | q
  · exact run_fn F hr b0 (.nil) pass0 I2 rv (by rw [List.append_nil]; exact q)
  · exact run_fn F hr b1 vd pass0 I2 rv q
end
section
variable {α β γ : Type} {W : Wd} {K : PySem.W.Frag} {ta tb tc to : TE} {t : Ty α} {x : α} {z z' sep : Str} {i j : Int} {ns : List Int} {us : TS} {D : Ends}
/-- a sign in a text -/
theorem ev_inSg {c : Nat} (ha : Ev W ta tSt ⟨#[c]⟩) (hb : Ev W tb tSt z) : Ev W (tOp (fun x y H Q => ∃ (c : Nat) (z : Str), x = .str ⟨#[c]⟩ ∧ y = .str z ∧ Q (.bl (decide (c ∈ z.cps.toList))) H) ta tb) tBl (decide (c ∈ z.cps.toList)) := fun σ H o Q q =>
  ha σ H o _ fun v H1 g1 r1 => hb σ H1 g1.ok _ fun v2 H2 g2 r2 => ⟨c, z, r1, r2, q _ H2 (g1.trans g2) rfl⟩
theorem ev_rempre (ha : Ev W ta tSt z) (hb : Ev W tb tSt sep) (hl : z.length ≤ sizeLine) : Ev W (tBM K "str" (fun x xs H Q => ∃ a b, x = .str a ∧ xs = [.str b] ∧ a.length ≤ sizeLine ∧ Q (.str (Txt.removeprefix a b)) H) ta (tCons tb tNil)) tSt (Txt.removeprefix z sep) := fun σ H o Q q =>
  ha σ H o _ fun v H1 g1 r1 => ⟨tyS r1, hb σ H1 g1.ok _ fun v2 H2 g2 r2 => ⟨z, sep, r1, by rw [show v2 = .str sep from r2], hl, q _ H2 (g1.trans g2) rfl⟩⟩
theorem ev_startsw (ha : Ev W ta tSt z) (hb : Ev W tb tSt sep) : Ev W (tBM K "str" (fun x xs H Q => ∃ a b, x = .str a ∧ xs = [.str b] ∧ Q (.bl (Txt.startswith a b)) H) ta (tCons tb tNil)) tBl (Txt.startswith z sep) := fun σ H o Q q =>
  ha σ H o _ fun v H1 g1 r1 => ⟨tyS r1, hb σ H1 g1.ok _ fun v2 H2 g2 r2 => ⟨z, sep, r1, by rw [show v2 = .str sep from r2], q _ H2 (g1.trans g2) rfl⟩⟩
/-- int(text) -/
theorem ev_intS (ha : Ev W ta tSt z) (hn : intText? z = some i) (hl : z.length ≤ 640) : Ev W (tCB (fun xs H Q => ∃ a n, xs = [.str a] ∧ PySem.intText? a = some n ∧ a.length ≤ 640 ∧ Q (.int n) H) (tCons ta tNil)) tInt i := fun σ H o Q q =>
  ha σ H o _ fun v H1 g1 r1 => ⟨z, i, by rw [show v = .str z from r1], hn, hl, q _ H1 g1 rfl⟩
theorem inV_int {vs : List V} (h : vs = ns.map V.int) : inV (.int i) vs = decide (i ∈ ns) := by
  subst h
  induction ns with
  | nil => rfl
  | cons y ys ih =>
    show (eqV (V.int y) (V.int i) || inV (V.int i) (ys.map V.int)) = _
    rw [ih, Bool.eq_iff_iff, Bool.or_eq_true, decide_eq_true_iff, decide_eq_true_iff, List.mem_cons]
    show (y == i) = true ∨ _ ↔ _
    rw [beq_iff_eq]
    exact ⟨fun h => h.imp (fun e => e.symm) id, fun h => h.imp (fun e => e.symm) id⟩
theorem ints_of {H : Hp} {vs : List V} (al : All2 (tInt.r H) vs ns) : vs = ns.map V.int := All2.toMap V.int (fun v x e => e) al
/-- a number among numbers -/
theorem ev_inI (ha : Ev W ta tInt i) (hb : Ev W tb (tLs K tInt) ns) : Ev W (tOp (rIn K false) ta tb) tBl (decide (i ∈ ns)) := fun σ H o Q q =>
  ha σ H o _ fun v H1 g1 r1 => hb σ H1 g1.ok _ fun v2 H2 g2 ⟨p, vs, e, s, al⟩ => ⟨p, vs, e, .inl ((SqL.of (hid_sub _ _ s))), by rw [show v = .int i from r1]; rfl, by rw [ints_of al]; simp [List.all_map, flatV], q _ H2 (g1.trans g2) (by
    rw [show v = .int i from r1]
    show V.bl (inV (.int i) vs) = _
    rw [inV_int (ints_of al)])⟩
theorem ev_bits (ha : Ev W ta tInt i) : Ev W (tBits ta) tInt ((Builtin.Int.intBits i : Nat) : Int) := fun σ H o Q q =>
  ha σ H o _ fun v H1 g1 r1 => ⟨i, r1, q _ H1 g1 rfl⟩
theorem ev_strA (h : Ev W ta tInt i) (hi : i.natAbs < 10 ^ 4300) : Ev W (tCB (fun xs H Q => ∃ i : Int, xs = [.int i] ∧ i.natAbs < 10 ^ 4300 ∧ Q (.str (toString i)) H) (tCons ta tNil)) tSt (Str.ofString (toString i)) := fun σ H o Q q =>
  h σ H o _ fun v H1 g1 e => ⟨i, by rw [show v = .int i from e], hi, q _ H1 g1 rfl⟩
/-- f'{i}sep{j}' -/
theorem ev_fmt3 (ha : Ev W ta tInt i) (hb : Ev W tb tInt j) (hi : i.natAbs < 10 ^ 12) (hj : j.natAbs < 10 ^ 12) (hs : sep.length ≤ 1000) :
    Ev W (fun σ H Q => tJs [tFmt ta, tC (.str sep), tFmt tb] Str.empty σ H fun out H1 => Q (.str out) H1) tSt ((Str.ofString (toString i) ++ sep) ++ Str.ofString (toString j)) := fun σ H o Q q => by
  have small : ∀ {n : Int}, n.natAbs < 10 ^ 12 → n.natAbs.log2 < 1920 ∧ (Str.ofString (toString n)).length ≤ 13 := fun {n} h => by
    refine ⟨?_, ?_⟩
    · by_cases h0 : n.natAbs = 0
      · rw [h0]; decide
      · have h1 : n.natAbs < 2 ^ 40 := Nat.lt_of_lt_of_le h (by decide)
        exact Nat.lt_of_lt_of_le ((Nat.log2_lt h0).mpr h1) (by decide)
    · rw [int_S, SX.S_len]
      unfold sgn
      have := TL.numL_len (k := 12) (by decide) h
      split <;> simp only [List.length_append, List.length_cons, List.length_nil] <;> omega
  have e0 : ∀ x : Str, (Str.empty ++ x : Str) = x := fun x => TL.ext_tl (by rw [TL.tl_append]; rfl)
  have big : (2000 : Nat) ≤ sizeLine := by decide
  obtain ⟨i1, i2⟩ := small hi
  obtain ⟨j1, j2⟩ := small hj
  refine ha σ H o _ fun v H1 g1 r1 => .inr ⟨i, r1, i1, _, rfl, ?_, _, rfl, ?_, hb σ H1 g1.ok _ fun v2 H2 g2 r2 => .inr ⟨j, r2, j1, _, rfl, ?_, ?_⟩⟩
  · show (Str.empty ++ Str.ofString (toString i) : Str).length ≤ sizeLine
    rw [e0]; omega
  · show ((Str.empty ++ Str.ofString (toString i) : Str) ++ sep).length ≤ sizeLine
    rw [e0, strLen_append]; omega
  · show (((Str.empty ++ Str.ofString (toString i) : Str) ++ sep) ++ Str.ofString (toString j)).length ≤ sizeLine
    rw [e0, strLen_append, strLen_append]; omega
  · show Q (.str (((Str.empty ++ Str.ofString (toString i) : Str) ++ sep) ++ Str.ofString (toString j))) H2
    rw [e0]
    exact q _ H2 (g1.trans g2) rfl
/-- p, q = r -/
theorem go_unfr {m n : Nat} {r : Rat} (h : Ev W ta (tFr K) r) (k : Go ((W.at m (tInt.is r.num)).at n (tInt.is (r.den : Int))) us D) : Go W (tSeq (tAsg ta (gTup K 2 (gCons (gName m) (gCons (gName n) gNil)))) us) D := fun σ H o => h σ H o _ fun v H1 g1 ⟨p, e, s⟩ =>
  ⟨p, _, e, sqT_mono hid_sub s, rfl, _, _, rfl, _, _, rfl, rfl, k _ _ ((g1.ok.put (i := m) (f := tInt.is r.num) rfl).put (i := n) (f := tInt.is (r.den : Int)) rfl)⟩
/-- i <= j <= k of numbers -/
theorem ev_leleI {i j k : Int} (ha : Ev W ta tInt i) (hb : Ev W tb tInt j) (hc : Ev W tc tInt k) : Ev W (tChain (rI0 fun i j => .bl (decide (i ≤ j))) (rI0 fun i j => .bl (decide (i ≤ j))) ta tb tc) tBl (decide (i ≤ j) && decide (j ≤ k)) := fun σ H o Q q =>
  ha σ H o _ fun v H1 g1 r1 => hb σ H1 g1.ok _ fun v2 H2 g2 r2 => ⟨i, j, r1, r2, _, rfl, by
    cases h : decide (i ≤ j) with
    | true =>
      rw [h] at q
      exact hc σ H2 g2.ok _ fun v3 H3 g3 r3 => ⟨j, k, r2, r3, q _ H3 ((g1.trans g2).trans g3) rfl⟩
    | false =>
      rw [h] at q
      exact q _ H2 (g1.trans g2) rfl⟩
theorem ev_pow (ha : Ev W ta tInt i) (hb : Ev W tb tInt j) (k : CPow i j) : Ev W (tOp (rI CPow fun i j => .int (i ^ j.toNat)) ta tb) tInt (i ^ j.toNat) := fun σ H o Q q =>
  ha σ H o _ fun v H1 g1 r1 => hb σ H1 g1.ok _ fun v2 H2 g2 r2 => ⟨i, j, r1, r2, k, q _ H2 (g1.trans g2) rfl⟩
theorem ev_mulS {n : Nat} (ha : Ev W ta tSt z) (hb : Ev W tb tInt (n : Int)) (h : z.length * n ≤ 1000000 ∧ z.length ≤ 1000000 ∧ n ≤ 1000000 ∧ 2 ≤ n ∧ 1 ≤ z.length) :
    Ev W (tOp (fun x y H Q => ∃ (z : Str) (n : Nat), x = .str z ∧ y = .int (n : Int) ∧ z.length * n ≤ 1000000 ∧ z.length ≤ 1000000 ∧ n ≤ 1000000 ∧ 2 ≤ n ∧ 1 ≤ z.length ∧ Q (.str ⟨(List.replicate n z.cps).foldl (· ++ ·) #[]⟩) H) ta tb) tSt ⟨(List.replicate n z.cps).foldl (· ++ ·) #[]⟩ := fun σ H o Q q =>
  ha σ H o _ fun v H1 g1 r1 => hb σ H1 g1.ok _ fun v2 H2 g2 r2 => ⟨z, n, r1, r2, h.1, h.2.1, h.2.2.1, h.2.2.2.1, h.2.2.2.2, q _ H2 (g1.trans g2) rfl⟩
/-- a draw below one of several numbers -/
theorem evx_drawKx {P : Int → Prop} {E : XK} {s : Nat} {d l : Addr} {ns : List Int} (hs : W.G[s]? = some (some (tRf.is d))) (hL : cell d (cDk K d l ns) ∈ W.L) (hm : Evx W ta tInt P) (mb : ∀ m, P m → 0 < m ∧ m.natAbs < 2 ^ 8000) :
    Evx W (tCall (spDrawA K) [] E (tCons (tVar s) (tCons ta tNil))) tInt (fun v => ∃ m, P m ∧ 0 ≤ v ∧ v < m) := fun σ H o Q q => by
  obtain ⟨v, h1, rfl⟩ := o.slots s _ hs
  refine ⟨.ref d, h1, ?_⟩
  refine hm σ H o _ fun v m H1 pm g1 r => ?_
  obtain ⟨ob, hob, b, c, e, rfl, hl, ne, b0⟩ := g1.ok.at_ _ hL
  refine ⟨d, m, l, ns, by rw [show v = .int m from r]; rfl, (mb m pm).1, (mb m pm).2, ⟨b, c, e, hob, hid_sub.seq hl, ne, b0⟩, fun w H2 w0 w1 bt ⟨b', c', e', hob', _, _, b0'⟩ => ?_⟩
  have fd : fps [cell d (cDk K d l ns)] = [d] := rfl
  have bt' : Bt (fps [cell d (cDk K d l ns)]) H1 H2 := fun a o n h => bt a o (fun z => n (by rw [fd, z]; exact List.mem_cons_self ..)) h
  have hd : d ∈ W.S := (g1.ok.own d (mem_fps hL (List.mem_cons_self ..))).1
  have up : Same (hid W.S H1) (hid W.S H2) := bt'.hid (N := []) (fun a m => by rw [fd] at m; rw [List.mem_singleton.mp m]; exact hd) (fun a m => nomatch m)
  have g2 := g1.ok.after (C := [cell d (cDk K d l ns)]) (fun r m => by rw [List.mem_singleton.mp m]; exact hL) bt' (fun a m => by rw [fd] at m; rw [List.mem_singleton.mp m, hob']; simp) (fun r m => by
    rw [List.mem_singleton.mp m]
    exact ⟨_, hob', b', c', e', rfl, up.seq hl, ne, b0'⟩)
  exact q _ w H2 ⟨m, pm, w0, w1⟩ (g1.trans g2) rfl
end
end Cs
set_option maxHeartbeats 4000000
namespace Cs
open PySem PySem.Spec PyProof.Rows L2
/-! ### data as a kind -/
def tDp (K : PySem.W.Frag) : Ty PyData := ⟨fun H v d => Dp K H v d, fun e h => dp_mono e h⟩
def tnm : PyData → String
  | .int _ => "int"
  | .bool _ => "bool"
  | .str _ => "str"
  | .list _ => "list"
  | .tuple _ => "tuple"
  | _ => "NoneType"
/-- numbers, texts, truths, lists and tuples of them, so deep -/
inductive Pl : Nat → PyData → Prop
  | int (n : Nat) (i : Int) : Pl n (.int i)
  | bl (n : Nat) (b : Bool) : Pl n (.bool b)
  | str (n : Nat) (z : Str) : Pl n (.str z)
  | lst {n : Nat} {ds : List PyData} (h : ∀ d ∈ ds, Pl n d) (l : ds.length ≤ 1000) : Pl (n + 1) (.list ds)
  | tup {n : Nat} {ds : List PyData} (h : ∀ d ∈ ds, Pl n d) (l : ds.length ≤ 1000) : Pl (n + 1) (.tuple ds)
def isTy (d : PyData) (c : String) : Bool := decide (tnm d = c) || (decide (tnm d = "bool") && decide (c = "int"))
theorem kit_tab : ∀ a ∈ ["int", "bool", "str", "list", "tuple"], ∀ c ∈ ["int", "bool", "str", "list", "tuple"], kitB a c = some (decide (a = c) || (decide (a = "bool") && decide (c = "int"))) := by decide +kernel
theorem pl_nm {n : Nat} {d : PyData} (h : Pl n d) : tnm d ∈ ["int", "bool", "str", "list", "tuple"] := by cases h <;> simp [tnm]
theorem ty_dp {K : PySem.W.Frag} {H : Hp} {v : V} {n : Nat} {d : PyData} (p : Pl n d) (h : Dp K H v d) : TyX K H v (.type (tnm d)) := by
  cases h with
  | non => cases p
  | bl b => exact .base (.bl b)
  | int i => exact .base (.int i)
  | str x => exact .base (.str x)
  | lst s _ =>
    rcases s with (s | ⟨o, s⟩) | ⟨o, its, n, h, hc, _⟩
    · exact .base (.lst s)
    · exact .base (.frz s)
    · exact .kList h hc
  | tup s _ =>
    rcases s with (s | ⟨o, s⟩) | ⟨o, its, n, h, hc, _⟩
    · exact .base (.tup s)
    · exact .fTuple s
    · exact .kTuple h hc
section
variable {α : Type} {W : Wd} {K : PySem.W.Frag} {ta tb tc : TE} {t : Ty α} {x : α} {d e : PyData} {ds es : List PyData} {n : Nat} {i : Int} {c : String}
theorem ev_dp (q : Eqt K t) (h : Ev W ta t x) : Ev W ta (tDp K) (q.d x) := ev_to h fun _ _ r => q.dp r
theorem ev_isD (p : Pl n d) (h : Ev W ta (tDp K) d) (hc : c ∈ ["int", "bool", "str", "list", "tuple"]) : Ev W (tCB (rIsi K) (tCons ta (tCons (tC (.ty c)) tNil))) tBl (isTy d c) := fun σ H o Q q =>
  h σ H o _ fun v H1 g1 r1 => ⟨v, .ty c, .type (tnm d), .type c, isTy d c, rfl, .ty _, ty_dp p (dp_mono hid_sub r1), kit_ty (kit_tab _ (pl_nm p) c hc), q _ H1 g1 rfl⟩
theorem dpAll_len {H : Hp} : ∀ {vs : List V} {ds : List PyData}, DpAll K H vs ds → vs.length = ds.length
  | _, _, .nil => rfl
  | _, _, .cons _ r => congrArg (· + 1) (dpAll_len r)
theorem dpAll_at {H : Hp} : ∀ {vs : List V} {ds : List PyData} {k : Nat} {d : PyData}, DpAll K H vs ds → ds[k]? = some d → ∃ v, vs[k]? = some v ∧ Dp K H v d
  | _, _, 0, _, .cons h _, e => by
    obtain rfl := Option.some.inj e
    exact ⟨_, rfl, h⟩
  | _, _, k + 1, _, .cons _ r, e => by
    rw [List.getElem?_cons_succ] at e
    obtain ⟨v, h1, h2⟩ := dpAll_at r e
    exact ⟨v, by rw [List.getElem?_cons_succ]; exact h1, h2⟩
/-- the items of a list or a tuple -/
def itemsD : PyData → List PyData
  | .list ds => ds
  | .tuple ds => ds
  | _ => []
def isSeqD : PyData → Bool
  | .list _ => true
  | .tuple _ => true
  | _ => false
theorem dp_seq {H : Hp} {v : V} (hs : isSeqD d = true) (h : Dp K H v d) : ∃ p vs, v = .ref p ∧ (SqL K H p vs ∨ SqT K H p vs) ∧ DpAll K H vs (itemsD d) := by
  cases h with
  | lst s a => exact ⟨_, _, rfl, .inl s, a⟩
  | tup s a => exact ⟨_, _, rfl, .inr s, a⟩
  | _ => cases hs
theorem ev_lenD (hs : isSeqD d = true) (h : Ev W ta (tDp K) d) : Ev W (tCB (fun xs H Q => ∃ p ys, xs = [.ref p] ∧ (SqL K H p ys ∨ SqT K H p ys) ∧ Q (.int ys.length) H) (tCons ta tNil)) tInt ((itemsD d).length : Int) := fun σ H o Q q =>
  h σ H o _ fun v H1 g1 r1 => by
    obtain ⟨p, vs, rfl, s, a⟩ := dp_seq hs (dp_mono hid_sub r1)
    exact ⟨p, vs, rfl, s, q _ H1 g1 (by rw [dpAll_len a]; rfl)⟩
theorem ev_ixD {k : Nat} (hs : isSeqD d = true) (h : Ev W ta (tDp K) d) (hb : Ev W tb tInt (k : Int)) (e1 : (itemsD d)[k]? = some e) : Ev W (tOp (rIx K) ta tb) (tDp K) e := fun σ H o Q q =>
  h σ H o _ fun v H1 g1 r1 => hb σ H1 g1.ok _ fun v2 H2 g2 r2 => by
    have r1 := dp_mono g2.up r1
    cases r1 with
    | @lst a xs ds s al =>
      obtain ⟨w, h1, h2⟩ := dpAll_at al e1
      exact .inl ⟨a, xs, k, w, rfl, r2, hid_sub.seq s, atI_nat h1, q w H2 (g1.trans g2) h2⟩
    | @tup a xs ds s al =>
      obtain ⟨w, h1, h2⟩ := dpAll_at al e1
      exact .inr (.inl ⟨a, xs, k, w, rfl, r2, sqT_mono hid_sub s, atI_nat h1, q w H2 (g1.trans g2) h2⟩)
    | _ => cases hs
theorem ev_neB {b b' : Bool} (ha : Ev W ta tBl b) (hb : Ev W tb tBl b') : Ev W (tOp rNe ta tb) tBl (!decide (b = b')) := fun σ H o Q q =>
  ha σ H o _ fun v H1 g1 r1 => hb σ H1 g1.ok _ fun v2 H2 g2 r2 => by
    obtain rfl : v = .bl b := r1
    obtain rfl : v2 = .bl b' := r2
    exact ⟨rfl, by rw [show decide (V.bl b = V.bl b') = decide (b = b') from decide_eq_decide.mpr ⟨fun z => V.bl.inj z, fun z => congrArg V.bl z⟩]; exact q _ H2 (g1.trans g2) rfl⟩
/-- two times the same atom -/
theorem ev_eqDa (p : Pl n d) (hs : isSeqD d = false) (ha : Ev W ta (tDp K) d) (hb : Ev W tb (tDp K) d) : Ev W (tOp rEq ta tb) tBl true := fun σ H o Q q =>
  ha σ H o _ fun v H1 g1 r1 => hb σ H1 g1.ok _ fun v2 H2 g2 r2 => by
    have r1 : Dp K (hid W.S H2) v d := dp_mono g2.up r1
    have r2 : Dp K (hid W.S H2) v2 d := r2
    cases p with
    | int n i =>
      cases r1; cases r2
      exact ⟨rfl, by rw [decide_eq_true rfl]; exact q _ H2 (g1.trans g2) rfl⟩
    | bl n b =>
      cases r1; cases r2
      exact ⟨rfl, by rw [decide_eq_true rfl]; exact q _ H2 (g1.trans g2) rfl⟩
    | str n z =>
      cases r1; cases r2
      exact ⟨rfl, by rw [decide_eq_true rfl]; exact q _ H2 (g1.trans g2) rfl⟩
    | lst _ _ => cases hs
    | tup _ _ => cases hs
end
/-- what the laws' own comparison is asked: two times the same data, so deep -/
abbrev spSameD (K : PySem.W.Frag) (n : Nat) : Sp := spP (fun d : PyData => [(tDp K).is d, (tDp K).is d]) tBl (Pl n) (fun _ => true)
end Cs
set_option maxHeartbeats 4000000
namespace Cs
open PySem PySem.Spec PyProof.Rows L2
/-! ### draws that are taken from the end of a list -/
def spDraws (K : PySem.W.Frag) : Sp := fun vs H Q _ => ∃ (a : Addr) (ns : List Int), vs = [.ref a] ∧ SqL K H a (ns.map V.int) ∧ ns.length ≤ 63 ∧ ∀ (d : Addr) (ms : List Int) (H' : Hp), Same H H' → H d = none → H' d = some (.lst (ms.map V.int)) → Q (.ref d) H'
def spTake : Sp := fun vs H Q _ => ∃ (d : Addr) (m : Int) (ms : List Int), vs = [.ref d, .int m] ∧ 0 < m ∧ H d = some (.lst (ms.map V.int)) ∧ ∀ (v : Int) (ms' : List Int) (H' : Hp), 0 ≤ v → v < m → But d H H' → H' d = some (.lst (ms'.map V.int)) → Q (.int v) H'
def cIn : CF := ⟨fun _ o => ∃ ms : List Int, o = .lst (ms.map V.int), fun _ h => h⟩
section
variable {α β γ : Type} {W : Wd} {K : PySem.W.Frag} {ta tb tc : TE} {t : Ty α} {u : Ty β} {x x' : α} {y : β} {tt uu : TT} {ar : TA} {fs : List SF} {i j : Int} {E : XK} {ts us : TS} {D : Ends} {ns : List Int}
theorem evx_pop {m : Int} {s : Nat} {d : Addr} (hs : W.G[s]? = some (some (tRf.is d))) (hL : cell d cIn ∈ W.L) (hm : Ev W ta tInt m) (m0 : 0 < m) : Evx W (tCall spTake [] E (tCons (tVar s) (tCons ta tNil))) tInt (fun v => 0 ≤ v ∧ v < m) := fun σ H o Q q => by
  obtain ⟨v, h1, rfl⟩ := o.slots s _ hs
  refine ⟨.ref d, h1, hm σ H o _ fun v H1 g1 r => ?_⟩
  obtain ⟨ob, hob, ms, rfl⟩ := g1.ok.at_ _ hL
  refine ⟨d, m, ms, by rw [show v = .int m from r]; rfl, m0, hob, fun w ms' H2 w0 w1 bt hd' => ?_⟩
  have fd : fps [cell d cIn] = [d] := rfl
  have g2 := g1.ok.after (C := [cell d cIn]) (fun r m => by rw [List.mem_singleton.mp m]; exact hL) (fun a o n h => bt a o (fun z => n (by rw [fd, z]; exact List.mem_cons_self ..)) h) (fun a m => by rw [fd] at m; rw [List.mem_singleton.mp m, hd']; simp) (fun r m => by
    rw [List.mem_singleton.mp m]
    exact ⟨_, hd', ms', rfl⟩)
  exact q _ w H2 ⟨w0, w1⟩ (g1.trans g2) rfl
theorem evx_popx {P : Int → Prop} {s : Nat} {d : Addr} (hs : W.G[s]? = some (some (tRf.is d))) (hL : cell d cIn ∈ W.L) (hm : Evx W ta tInt P) (m0 : ∀ m, P m → 0 < m) : Evx W (tCall spTake [] E (tCons (tVar s) (tCons ta tNil))) tInt (fun v => ∃ m, P m ∧ 0 ≤ v ∧ v < m) := fun σ H o Q q => by
  obtain ⟨v, h1, rfl⟩ := o.slots s _ hs
  refine ⟨.ref d, h1, hm σ H o _ fun v m H1 pm g1 r => ?_⟩
  obtain ⟨ob, hob, ms, rfl⟩ := g1.ok.at_ _ hL
  refine ⟨d, m, ms, by rw [show v = .int m from r]; rfl, m0 m pm, hob, fun w ms' H2 w0 w1 bt hd' => ?_⟩
  have fd : fps [cell d cIn] = [d] := rfl
  have g2 := g1.ok.after (C := [cell d cIn]) (fun r m => by rw [List.mem_singleton.mp m]; exact hL) (fun a o n h => bt a o (fun z => n (by rw [fd, z]; exact List.mem_cons_self ..)) h) (fun a m => by rw [fd] at m; rw [List.mem_singleton.mp m, hd']; simp) (fun r m => by
    rw [List.mem_singleton.mp m]
    exact ⟨_, hd', ms', rfl⟩)
  exact q _ w H2 ⟨m, pm, w0, w1⟩ (g1.trans g2) rfl
/-- draws = _law_draws(script) -/
theorem go_draws {s n : Nat} (hs : W.G[s]? = some (some ((tSc K).is ns))) (hl : ns.length ≤ 63) (k : ∀ d, Go ⟨W.H0, W.M, d :: W.S, cell d cIn :: W.L, W.F, W.G.set n (some (tRf.is d))⟩ us D) : Go W (tSeq (tAsg (tCall (spDraws K) [] E (tCons (tVar s) tNil)) (gName n)) us) D := fun σ H o => by
  obtain ⟨v, h1, p, rfl, hq⟩ := o.slots s _ hs
  refine ⟨.ref p, h1, p, ns, rfl, hid_sub.seq hq, hl, fun d ms H' e nd hd => ?_⟩
  obtain ⟨o2, _⟩ := o.change1 (C := []) (C' := [cell d cIn]) (R := W.L) (N := [d]) (H' := H') rfl (Bt.of e) (fun a m => by rw [List.mem_singleton.mp m]; exact ⟨nd, by rw [hd]; simp⟩) (by show [d].Nodup; simp) (fun a m => .inr m) (fun a m => nomatch m) (fun r m => by
    rw [List.mem_singleton.mp m]
    exact ⟨_, hd, ms, rfl⟩)
  exact k d _ _ (Ok.put (i := n) (f := tRf.is d) o2 rfl)
/-! ### the script -/
theorem iv_sc (h : Ev W ta (tSc K) ns) : Iv W (iList K ta) tInt ns := fun σ H o R q => h σ H o _ fun v H1 g1 ⟨p, e, s⟩ =>
  ⟨p, e, ⟨ns.map V.int, hid_sub.seq s⟩, q _ _ ⟨fun H => SqL K H p (ns.map V.int), fun e h => e.seq h⟩ g1 s ⟨YAt (ns.map V.int), by
    rw [← List.length_map (f := V.int) (as := ns)]
    exact walk_list.mono (fun H ⟨S, z⟩ => hid_sub.seq z) fun i H v H' _ _ h => h, fun i H v H' S hi z _ ⟨e1, e2⟩ => by
    subst e1
    rw [List.getElem?_map] at e2
    cases c : ns[i]? with
    | none => rw [c] at e2; cases e2
    | some x => rw [c] at e2; exact ⟨Same.refl _, x, rfl, (Option.some.inj e2).symm⟩⟩⟩
theorem ev_lenSc (h : Ev W ta (tSc K) ns) : Ev W (tCB (fun xs H Q => ∃ p ys, xs = [.ref p] ∧ (SqL K H p ys ∨ SqT K H p ys) ∧ Q (.int ys.length) H) (tCons ta tNil)) tInt (ns.length : Int) := fun σ H o Q q =>
  h σ H o _ fun v H1 g1 ⟨p, e, s⟩ => ⟨p, ns.map V.int, by rw [e], .inl (hid_sub.seq s), q _ H1 g1 (by rw [List.length_map]; rfl)⟩
theorem ev_ixSc {n x : Int} (h : Ev W ta (tSc K) ns) (hb : Ev W tb tInt n) (e : atI ns n = some x) : Ev W (tOp (rIxL K) ta tb) tInt x := fun σ H o Q q =>
  h σ H o _ fun v H1 g1 ⟨p, ev, s⟩ => hb σ H1 g1.ok _ fun v2 H2 g2 r2 => ⟨p, ns.map V.int, n, .int x, ev, r2, hid_sub.seq (g2.up.seq s), by
    unfold atI at e ⊢
    rw [List.length_map]
    cases c : ixN ns.length n with
    | none => rw [c] at e; cases e
    | some k =>
      rw [c] at e
      have e : ns[k]? = some x := e
      show (ns.map V.int)[k]? = _
      rw [List.getElem?_map, e]; rfl, q _ H2 (g1.trans g2) rfl⟩
/-- list(reversed(xs)), fresh -/
theorem ev_listRevNw {xs : List α} (h : Ev W ta (tLs K t) xs) : Ev W (tListRev ta) (tNw W.H0 t) xs.reverse := fun σ H o Q q => h σ H o _ fun v H1 g1 ⟨p, vs, e, s, al⟩ =>
  ⟨p, vs, e, hid_sub _ _ s, fun l nl => q _ _ (g1.trans (g1.ok.new nl)) ⟨l, vs.reverse, rfl, by rw [hid_of (g1.ok.off nl)]; exact upd_same, by
    have rev : ∀ {r : V → α → Prop} (vs : List V) (xs : List α), All2 r vs xs → All2 r vs.reverse xs.reverse := by
      intro r vs
      induction vs with
      | nil => intro xs h; cases xs with
        | nil => exact trivial
        | cons _ _ => exact h.elim
      | cons v vs ih => intro xs h; cases xs with
        | nil => exact h.elim
        | cons x xs =>
          rw [List.reverse_cons, List.reverse_cons]
          exact (ih xs h.2).app (ws := [v]) (ys := [x]) ⟨h.1, trivial⟩
    exact rev _ _ (All2.mono (fun _ _ => t.mono (g1.ok.new nl).up) al), h0_of g1.ok nl⟩⟩
end
end Cs
set_option maxHeartbeats 4000000
namespace Cs
open PySem PySem.Spec PyProof.Rows L2
/-! ### errors that keep three arguments -/
def spX3 (K : PySem.W.Frag) (C : Addr) (n1 n2 n3 : Str) : Sp := fun vs H Q _ => ∃ (a : Addr) (v1 v2 v3 : V), vs = [.ref a, v1, v2, v3] ∧ OexC K C ∧ (PySem.W.findIn K (.ref C) n1 = some none ∧ PySem.W.findIn K (.ref C) n2 = some none ∧ PySem.W.findIn K (.ref C) n3 = some none) ∧ H a = some (exo a C none) ∧
  ∀ (dx : Addr) (H' : Hp), H dx = none → dx ≠ a → H' a = some (exo a C (some dx)) → H' dx = some (exd dx [(n3, v3), (n2, v2), (n1, v1)]) → (∀ b, b ≠ a → b ≠ dx → H' b = H b) → Q .non H'
structure X3 (P : Program) (w : World) (K : PySem.W.Frag) (mg : Str → Option Value) (base : Heap) (nm n1 n2 n3 : Str) (C fI : Addr) (fd : FuncData) : Prop where
  g : mg nm = some (.ref C)
  T : OexC K C
  no : PySem.W.findIn K (.ref C) n1 = some none ∧ PySem.W.findIn K (.ref C) n2 = some none ∧ PySem.W.findIn K (.ref C) n3 = some none
  iC : PySem.W.findIn K (.ref C) "__init__" = some (some (.ref fI))
  tI : PySem.W.typeIn K (.ref fI) = some (.type "function")
  ok : FnOk P w K mg base CX0 1 fI fd ["self", n1, n2, n3] (spX3 K C n1 n2 n3)
  b : Binds K fd ["self", n1, n2, n3] []
section
variable {α β γ : Type} {W : Wd} {K : PySem.W.Frag} {ta tb tc : TE} {t : Ty α} {u : Ty β} {v : Ty γ} {x : α} {y : β} {z : γ} {D : Ends}
theorem go_raise3 {C : Addr} {n1 n2 n3 : Str} {WW : WX} (T : OexC K C) (hn : PySem.W.findIn K (.ref C) n1 = some none ∧ PySem.W.findIn K (.ref C) n2 = some none ∧ PySem.W.findIn K (.ref C) n3 = some none) (d12 : n1 ≠ n2) (d13 : n1 ≠ n3) (d23 : n2 ≠ n3) (ha : Ev W ta t x) (hb : Ev W tb u y) (hc : Ev W tc v z) (fl : ∀ σ, Flies W σ C [(n1, t.is x), (n2, u.is y), (n3, v.is z)] (fun c d H => WW c d σ H)) :
    Go W (fun _ σ H => tMkO C (spX3 K C n1 n2 n3) [] (tCons ta (tCons tb (tCons tc tNil))) σ H fun cls d H' => WW cls d σ H') D := fun σ H o => ha σ H o _ fun v1 H1 g1 r1 => hb σ H1 g1.ok _ fun v2 H2 g2 r2 => hc σ H2 g2.ok _ fun v3 H3 g3 r3 => by
  have g := (g1.trans g2).trans g3
  refine ⟨by show 3 ≤ 1000; decide, fun a na => ⟨a, v1, v2, v3, rfl, T, hn, upd_same, fun dx H4 nx ne h1 h2 h3 => ⟨rfl, dx, _, h1, h2, ?_, ?_⟩⟩⟩
  · rw [upd_ne ne] at nx
    exact nx
  · rw [upd_ne ne] at nx
    have e1 : Same H3 (upd (del H4 a) dx (.xd [(n3, v3), (n2, v2), (n1, v1)])) := fun b ob hb => by
      have b1 : b ≠ a := fun q => by rw [q, na] at hb; cases hb
      have b2 : b ≠ dx := fun q => by rw [q, nx] at hb; cases hb
      rw [upd_ne b2, del_ne b1, h3 b b1 b2, upd_ne b1]
      exact hb
    have up := hid_same (S := W.S) e1
    refine fl σ dx [(n3, v3), (n2, v2), (n1, v1)] _ (g.ok.same e1) upd_same fun m f mm => ?_
    have n21 : (n2 == n1) = false := beq_eq_false_iff_ne.mpr (Ne.symm d12)
    have n31 : (n1 == n3) = false := beq_eq_false_iff_ne.mpr d13
    have n12 : (n1 == n2) = false := beq_eq_false_iff_ne.mpr d12
    have n32 : (n2 == n3) = false := beq_eq_false_iff_ne.mpr d23
    simp only [List.mem_cons, List.not_mem_nil, or_false, Prod.mk.injEq] at mm
    rcases mm with ⟨rfl, rfl⟩ | ⟨rfl, rfl⟩ | ⟨rfl, rfl⟩
    · exact ⟨v1, by simp [List.lookup, n31, n12], t.mono (g2.up.trans (g3.up.trans up)) r1⟩
    · exact ⟨v2, by simp [List.lookup, n32], u.mono (g3.up.trans up) r2⟩
    · exact ⟨v3, by simp [List.lookup], v.mono up r3⟩
end
end Cs
set_option maxHeartbeats 4000000
namespace Cs
open PySem PySem.Spec PyProof.Rows L2
/-! ### errors whose context is None: raised, let through, caught -/
/-- nothing is let out -/
theorem takesN0 {X : Cx} : L2N.Takes X (fun _ _ _ _ => False) := fun _ _ ⟨_, _, _, _, _, _, _, _, _, _, _, _, _, _, _, _, z⟩ => z.elim
theorem passN {X : Cx} {W : WX} (tk : L2N.Takes X W) (σ : L2.St) : PassesAt (L2N.CX X.prog X.w) X σ (WE W σ) := fun _ _ _ u s1 I c => tk u s1 (L2N.XE.of_call I (fun _ _ _ q => q) c)
def CalN (P : Program) (w : World) (K : PySem.W.Frag) (mg : Str → Option Value) (base : Heap) (k : Nat) (x : Str) (ps : List Str) (sp : Sp) : Prop :=
  ∃ (f : Addr) (fd : FuncData), FnOk P w K mg base (L2N.CX P w) k f fd ps sp ∧ mg x = some (.ref f) ∧ PySem.W.keepIn K (.ref f) = true ∧ Binds K fd ps []
def CalH (P : Program) (w : World) (K : PySem.W.Frag) (mg : Str → Option Value) (base : Heap) (k : Nat) (x : Str) (ps : List Str) (sp : Sp) : Prop :=
  ∃ (f : Addr) (fd : FuncData), L2H.FnH P w K mg base CX0 k f fd ps sp ∧ mg x = some (.ref f) ∧ PySem.W.keepIn K (.ref f) = true ∧ Binds K fd ps []
section
variable {P : Program} {w : World} {K : PySem.W.Frag} {mg : Str → Option Value} {base : Heap} {k j : Nat} {x qual : Str} {ps N : List Str} {sp : Sp} {st : Stmt} {f : Addr} {fd : FuncData}
theorem CalN.of (F : FunG K mg x st ps) (h : ∀ {f : Addr} {fd : FuncData}, Fun K x x st f fd → FnOk P w K mg base (L2N.CX P w) k f fd ps sp) : CalN P w K mg base k x ps sp := by
  obtain ⟨f, fd, F, g, b⟩ := F
  exact ⟨f, fd, h F, g, F.kp, b⟩
theorem CalH.of (F : FunG K mg x st ps) (h : ∀ {f : Addr} {fd : FuncData}, Fun K x x st f fd → L2H.FnH P w K mg base CX0 k f fd ps sp) : CalH P w K mg base k x ps sp := by
  obtain ⟨f, fd, F, g, b⟩ := F
  exact ⟨f, fd, h F, g, F.kp, b⟩
/-- a def that raises such errors -/
theorem okNX (F : Fun K x qual st f fd) (S : FnScope N ps (defScope st)) (len : ∀ vs H Q E, sp vs H Q E → vs.length = ps.length)
    (body : ∀ (cdv : Value) (A : Around) (outer : List Env) (s : Shared) (H : Hp) (vs : List V) (Q : VK) (E : XK), Room k (A.deeper (envOfC qual (defScope st) s.heap.objs.size f cdv)) → sp vs H Q E →
      ∃ t, PSs (cxOf (L2N.CX P w) P w K mg base N qual (defScope st) f cdv A outer s H E) (defBody st) t ∧ t { nx := fun _ H' => Q .non H', rt := Q } (start N vs) H) : FnOk P w K mg base (L2N.CX P w) (k + 1) f fd ps sp := by
  obtain ⟨_, _, _, _, _, _, cdv, _, _, rfl, lk, hcd⟩ := F.ex
  exact fn_of lk hcd S len fun A outer s H vs Q E hr q => body cdv A outer s H vs Q E hr q
/-- a def that is called while an exception is handled -/
theorem okH (F : Fun K x qual st f fd) (S : FnScope N ps (defScope st)) (len : ∀ vs H Q E, sp vs H Q E → vs.length = ps.length)
    (body : ∀ (cdv : Value) (A : Around) (outer : List Env) (s : Shared) (H : Hp) (vs : List V) (Q : VK) (E : XK) (p : Addr × Obj), L2H.HotC (L2H.cxH CX0 P w K mg base N qual (defScope st) f cdv A outer s H E p).nox → L2H.RoomH k (L2H.cxH CX0 P w K mg base N qual (defScope st) f cdv A outer s H E p).nox.A → sp vs H Q E →
      ∃ t, PSs (L2H.cxH CX0 P w K mg base N qual (defScope st) f cdv A outer s H E p).nox (defBody st) t ∧ t { nx := fun _ H' => Q .non H', rt := Q } (start N vs) H) : L2H.FnH P w K mg base CX0 (k + 1) f fd ps sp := by
  obtain ⟨_, _, _, _, _, _, cdv, _, _, rfl, lk, hcd⟩ := F.ex
  refine L2H.fn_ofH lk hcd S len fun A outer s H vs Q E p hot hr q => ?_
  obtain ⟨t, h, q⟩ := body cdv A outer s H vs Q E p ⟨p, hot, List.mem_singleton_self _⟩ hr q
  exact ⟨t, h.nox, q⟩
end
section
variable {X : Cx} {k : Nat} {x : Str} {ps : List Str} {sp : Sp} {p pos : Pos} {e : Expr} {es : List Expr} {t : TA}
theorem pe_calN {E : L2.St → XK} (c : CalN X.prog X.w X.K X.mg X.base k x ps sp) (hr : Room k X.A) (hg : Gl X x) (hx : ∀ σ, PassesAt (L2N.CX X.prog X.w) X σ (E σ)) (ha : PA X (e :: es) t) (hdb : (x == ("__debug__" : Str)) = false := by decide)
    (he : starEach (e :: es) X.env = (false, eval e X.env) :: starEach es X.env := by rfl) (hpl : (backTo pos (starEach es X.env)).any (·.1) = false := by rfl) :
    PE X (.Call (.Name x p) (e :: es) [] pos) (tCallS sp E t) := by
  obtain ⟨_, _, F, g, kp, b⟩ := c
  exact pe_callS F hr hg g kp b hx ha hdb he hpl
theorem pe_calH (c : CalH X.prog X.w X.K X.mg X.base k x ps sp) (hr : L2H.RoomH k X.A) (hot : L2H.HotC X) (hg : Gl X x) (ha : PA X (e :: es) t) (hdb : (x == ("__debug__" : Str)) = false := by decide)
    (he : starEach (e :: es) X.env = (false, eval e X.env) :: starEach es X.env := by rfl) (hpl : (backTo pos (starEach es X.env)).any (·.1) = false := by rfl) :
    PE X (.Call (.Name x p) (e :: es) [] pos) (tCall sp [] E0 t) := by
  obtain ⟨_, _, F, g, kp, b⟩ := c
  refine ⟨fun pins s σ H Q I h => (L2H.pe_callH (E := fun _ => E0) F hr hot hg g kp b (fun σ pins H s u s1 I q => pass0 pins σ H s u s1 I q) ha hdb he hpl).run pins s σ H Q I ?_⟩
  have h : t σ H fun vs H1 => sp (vs ++ []) H1 Q E0 := h
  simp only [List.append_nil] at h
  exact h
end
section
variable {α β : Type} {K : PySem.W.Frag}
/-- a def with a promise, called while an exception is handled -/
theorem ok_PH {P : Program} {w : World} {mg : Str → Option Value} {base : Heap} {nm qual : Str} {st : Stmt} {f : Addr} {fd : FuncData} {N ps : List Str} {k : Nat} {A : α → List SF} {wt : Ty β} {pre : α → Prop} {g : α → β}
    (F : Fun K nm qual st f fd) (S : FnScope N ps (defScope st)) (hl : ∀ x, (A x).length = ps.length)
    (body : ∀ (cdv : Value) (A' : Around) (outer : List Env) (s : Shared) (H0 : Hp) (S : List Addr) (x : α) (Q : VK) (E : XK) (p : Addr × Obj), L2H.HotC (L2H.cxH CX0 P w K mg base N qual (defScope st) f cdv A' outer s H0 E p).nox → L2H.RoomH k (L2H.cxH CX0 P w K mg base N qual (defScope st) f cdv A' outer s H0 E p).nox.A → pre x → Rt [] S H0 wt (fun y => y = g x) Q →
      ∃ t, PSs (L2H.cxH CX0 P w K mg base N qual (defScope st) f cdv A' outer s H0 E p).nox (defBody st) t ∧ Go ⟨H0, [], S, [], [], (A x).map some ++ List.replicate (N.length - ps.length) none⟩ t { nx := fun _ H' => Q .non H', rt := Q }) :
    L2H.FnH P w K mg base CX0 (k + 1) f fd ps (spP A wt pre g) := by
  refine okH F S (fun vs H Q E h => ?_) (fun cdv A' outer s H vs Q E p hot hr h => ?_)
  · obtain ⟨_, x, _, _, _, _, ft, _⟩ := h
    rw [ft.length, hl]
  · obtain ⟨S', x, al, nd, sub, cc, ft, hp, out⟩ := h
    obtain ⟨t, h1, h2⟩ := body cdv A' outer s H S' x Q E p hot hr hp (fun v y H' => out v y H')
    refine ⟨t, h1, h2 _ _ ⟨nd, fun a m => ⟨sub a m, .inl m⟩, cc, sub, al, Bt.refl, ?_, (fun f m => nomatch m), fun i f' q => start_slots (by rw [ft.length, hl]) ft q⟩⟩
    have e1 := ft.length
    have e2 := hl x
    show (L2.start N vs).length = _
    unfold L2.start
    simp only [List.length_append, List.length_map, List.length_replicate]
    omega
/-- a def that raises an error whose context is None -/
theorem ok_EN {P : Program} {w : World} {mg : Str → Option Value} {base : Heap} {nm qual : Str} {st : Stmt} {f : Addr} {fd : FuncData} {N ps : List Str} {k : Nat} {C : α → List RS} {A : α → List SF} {pre : α → Prop} {CE : Addr} {flds : α → List (Str × SF)}
    (F : Fun K nm qual st f fd) (S : FnScope N ps (defScope st)) (hl : ∀ x, (A x).length = ps.length)
    (body : ∀ (cdv : Value) (A' : Around) (outer : List Env) (s : Shared) (H0 : Hp) (S : List Addr) (x : α) (Q : VK) (E : XK), Room k (A'.deeper (envOfC qual (defScope st) s.heap.objs.size f cdv)) → pre x → (∀ σ F G, Flies ⟨H0, fps (C x), S, C x, F, G⟩ σ CE (flds x) E) →
      ∃ t, PSs (cxOf (L2N.CX P w) P w K mg base N qual (defScope st) f cdv A' outer s H0 E) (defBody st) t ∧ Go ⟨H0, fps (C x), S, C x, [], (A x).map some ++ List.replicate (N.length - ps.length) none⟩ t { nx := fun _ H' => Q .non H', rt := Q }) :
    FnOk P w K mg base (L2N.CX P w) (k + 1) f fd ps (spE C A pre CE flds) := by
  refine okNX F S (fun vs H Q E h => ?_) (fun cdv A' outer s H vs Q E hr h => ?_)
  · obtain ⟨_, x, _, _, _, _, ft, _⟩ := h
    rw [ft.length, hl]
  · obtain ⟨S', x, al, nd, sub, cc, ft, hp, out⟩ := h
    obtain ⟨t, h1, h2⟩ := body cdv A' outer s H S' x Q E hr hp fun σ F' G d fs H' o hd hf => out d fs H' o.bt (fun a m => o.al a (sub a m)) o.at_ hd hf
    refine ⟨t, h1, h2 _ _ ⟨nd, fun a m => ⟨sub a m, .inl m⟩, cc, sub, al, Bt.refl, ?_, (fun f m => nomatch m), fun i f' q => start_slots (by rw [ft.length, hl]) ft q⟩⟩
    have e1 := ft.length
    have e2 := hl x
    show (L2.start N vs).length = _
    unfold L2.start
    simp only [List.length_append, List.length_map, List.length_replicate]
    omega
end
section
variable {X : Cx} {x : Str} {e : Expr} {es : List Expr} {p pos : Pos} {ta : TA}
/-- Class(..) of an own error, where nothing is handled: its context is None -/
theorem mk_oexN {C fI : Addr} {k : Nat} {fd : FuncData} {ps : List Str} {sp : Sp} (T : OexC X.K C) (iC : PySem.W.findIn X.K (.ref C) "__init__" = some (some (.ref fI))) (tI : PySem.W.typeIn X.K (.ref fI) = some (.type "function"))
    (F1 : FnOk X.prog X.w X.K X.mg X.base CX0 k fI fd ps sp) (hr : Room (k + 1) X.A) (hb : Binds X.K fd ps []) (hg : Gl X x) (hm : X.mg x = some (.ref C)) (ha : PA X (e :: es) ta)
    (hdb : (x == ("__debug__" : Str)) = false := by decide) (he : starEach (e :: es) X.env = (false, eval e X.env) :: starEach es X.env := by rfl) (hpl : (backTo pos (starEach es X.env)).any (·.1) = false := by rfl) :
    L2N.PMk X (.Call (.Name x p) (e :: es) [] pos) (tMkO C sp [] ta) := fun pins s σ H Q I h => by
  obtain ⟨_, _, _, _, bm, _, _, _, _, _, _, _, _, _, _, hC, hbm⟩ := T.cls
  refine wpAny_Call_Name_kw (ld_glob I hg hm (PySem.W.callWith_K (h₀ := X.base) I.ok.mod.kin T.kC (thn (ha.run pos pins s σ H _ I h) fun us s1 ⟨vs, H1, I1, r1, hz, q1⟩ => ⟨I1.kIn, ?_⟩) he hpl) hdb)
  obtain ⟨hp, g, dr, tk, os⟩ := s1
  let a : Addr := hp.objs.size + 1
  let mid : Heap := (hp.push (PySem.W.kdv_tup us)).push (PySem.HandSPX.excO C hp.objs.size)
  have sz : hp.objs.size ≤ a := Nat.le_succ _
  have grow : ∀ b o, hp.get? b = some o → mid.get? b = some o := fun b o q => Heap.get?_push_of_some _ (Heap.get?_push_of_some _ q)
  have at_ : mid.get? a = some (PySem.HandSPX.excO C hp.objs.size) := by
    show ((hp.push (PySem.W.kdv_tup us)).push (PySem.HandSPX.excO C hp.objs.size)).get? (hp.objs.size + 1) = _
    heap_get
  have q1 := q1 a (I1.hok.fresh sz)
  rw [List.append_nil] at q1
  have I2 : Inv X pins σ (upd H1 a (exo a C none)) ⟨mid, g, dr, tk, os⟩ := I1.laid (t' := tk) (a := a) (o := exo a C none) (h' := mid) grow sz (exo_ok at_)
  have r2 : Vals (V.ref a :: vs) (Value.ref a :: us) := .cons rfl r1
  have len : (Value.ref a :: us).length = ps.length := r2.length.symm.trans (F1.len _ _ _ _ q1)
  have small : us.length ≤ sizeLine := by rw [← Paired.length r1, sizeLine_eq]; omega
  have bind := hb _ (Value.ref a :: us) I2.kIn (by rw [List.append_nil]; exact len)
  rw [List.append_nil] at bind
  have done := F1.run _ X.stack _ _ ⟨Value.ref a :: us, []⟩ (Value.ref a :: us) _ _ (fun _ _ _ => False) (hr.make C us []) (I2.env0.make C us []) bind r2 q1
  refine wpAny_call (PySem.HandSPX.call_own F.excBase_ValueError (fun Y => PySem.HandSPX.refsVE_contains Y bm hbm) (I1.kIn _ _ hC) (PySem.W.looks_findIn I1.kIn iC) (fun self => PySem.W.bind_fn I1.kIn self tI) small (codeAny_mono done fun r s2 out => ?_))
  match r with
  | .error u => exact out.elim
  | .ok .next => exact False.elim out
  | .ok .brk => exact False.elim out
  | .ok .cont => exact False.elim out
  | .ok (.ret u) =>
    obtain ⟨v, H2, os2, bare, un, ok2, rv, ev, d, fs, ea, ed, hd1, q2⟩ := out
    subst ev
    obtain ⟨h2, g2, d2, t2, os3⟩ := s2
    obtain ⟨t0, G, J, kG, ge, hoe, na⟩ := mk_end0 (d2 := d2) (t2 := t2) I1 sz grow un ok2 os2 bare ea ed hd1
    exact ⟨rv, a, _, _, ⟨G, g2, d2, t2, os3⟩, _, .ref C, some d, rfl, J, kG, ge, hoe, ⟨rfl, rfl, fun ws hw => by cases hw; rfl⟩, rfl, rfl, na, rfl, bare, raises_own T.exC T.tyC, q2⟩
end
/-- an except suite whose error has no context -/
theorem hot_suite {X : Cx} {a : Addr} {ob : Obj} {cls : Value} {d : Option Addr} {ps : List (Addr × Obj)} (hz : L2N.Zn cls d ob) (hf : ∃ vs, ob.data = .fields vs) : L2H.HotC (X.suite a ((a, ob) :: ps)) := by
  obtain ⟨vs, q⟩ := hf
  exact ⟨(a, ob), ⟨rfl, vs, q, hz.2.2 vs q⟩, List.mem_cons_self⟩
end Cs
set_option maxHeartbeats 4000000
namespace Cs
open PySem PySem.Spec PyProof.Rows L2
/-! ### a caught error, read -/
section
variable {α β : Type} {W : Wd} {K : PySem.W.Frag} {σ : L2.St} {H : Hp}
/-- fewer things, fewer addresses -/
theorem Ok.trim {H0 : Hp} {M S S' : List Addr} {L L' : List RS} {F : List FF} {G : List (Option SF)} (o : Ok ⟨H0, M, S, L, F, G⟩ σ H) (hL : L'.Sublist L) (hS : ∀ a ∈ S', a ∈ S) (hM : ∀ a ∈ M, a ∈ S') (hl : ∀ a ∈ fps L', a ∈ S') : Ok ⟨H0, M, S', L', F, G⟩ σ H :=
  have up : Same (hid S H) (hid S' H) := hid_less hS
  ⟨(fps_sub hL).nodup o.nod, fun a m => ⟨hl a m, (o.own a ((fps_sub hL).subset m)).2⟩, fun r m => r.mono up (o.at_ r (hL.subset m)), hM, fun a m => o.al a (hS a m), o.bt, o.len, fun f m => f.mono up (o.facts f m), fun j f q => by
    obtain ⟨v, h1, h2⟩ := o.slots j f q
    exact ⟨v, h1, f.mono up h2⟩⟩
/-- what the error at d keeps -/
def ffE (d : Addr) (fs : List (Str × V)) (flds : List (Str × SF)) : FF := ⟨fun H => H d = some (.xd fs) ∧ FldAt H fs flds, fun e ⟨h, k⟩ => ⟨e _ _ h, fun n f m => by
  obtain ⟨u, h1, h2⟩ := k n f m
  exact ⟨u, h1, f.mono e h2⟩⟩⟩
theorem ev_xf {i : Nat} {a C d : Addr} {fs : List (Str × V)} {flds : List (Str × SF)} {n : Str} {t : Ty α} {x : α} (hs : W.G[i]? = some (some (tRf.is a))) (hf : ffE d fs flds ∈ W.F) (m : (n, t.is x) ∈ flds) : Ev W (tXf a (.ref C) (some d) C n (tVar i)) t x := fun σ H o Q q => by
  obtain ⟨v, h1, rfl⟩ := o.slots i _ hs
  obtain ⟨h2, h3⟩ := o.facts _ hf
  obtain ⟨u, h4, h5⟩ := h3 _ _ m
  exact ⟨.ref a, h1, rfl, rfl, d, fs, u, rfl, hid_sub _ _ h2, h4, q u H (Go1.refl o) h5⟩
/-- the error that a def promises is caught by its name: the suite, in a world where its attributes can be read -/
theorem flies_as {H0 : Hp} {M S S' : List Addr} {L L' : List RS} {F : List FF} {G : List (Option SF)} {ts : Addr → Value → Option Addr → TS} {c : Value} {i : Nat} {Wout : WX} {D : Ends} {CE : Addr} {flds : List (Str × SF)} (hit : PySem.W.exmOne K (.ref CE) c = some true) (hL : L'.Sublist L) (hS : ∀ a ∈ S', a ∈ S) (hM : ∀ a ∈ M, a ∈ S') (hl : ∀ a ∈ fps L', a ∈ S')
    (nx : ∀ σ H, Ok ⟨H0, M, S, L, F, G⟩ σ H → ∀ a ∈ S', ∀ fs, H a ≠ some (.xd fs)) (k : ∀ a d fs, Go ⟨H0, M, S', L', [ffE d fs flds], G.set i (some (tRf.is a))⟩ (ts a (.ref CE) (some d)) { nx := fun σ' H' => D.nx (σ'.set i none) H', rt := D.rt, bk := fun σ' H' => D.bk (σ'.set i none) H', ct := fun σ' H' => D.ct (σ'.set i none) H' }) :
    Flies ⟨H0, M, S, L, F, G⟩ σ CE flds (WE (wAs K c i ts Wout D) σ) := fun d fs H' o hd hf => ⟨true, hit, fun _ a _ => k a d fs _ _ (by
  have o1 := o.trim hL hS hM hl
  have o2 : Ok ⟨H0, M, S', L', [ffE d fs flds], G⟩ σ H' := ⟨o1.nod, o1.own, o1.at_, o1.ms, o1.al, o1.bt, o1.len, fun f m => by
    rw [List.mem_singleton.mp m]
    refine ⟨by rw [hid_of (fun z => nx _ _ o d z fs hd)]; exact hd, fun n f m => ?_⟩
    obtain ⟨u, h1, h2⟩ := hf n f m
    exact ⟨u, h1, f.mono (hid_less hS) h2⟩, o1.slots⟩
  exact Ok.put (i := i) (f := tRf.is a) o2 rfl), fun z => by cases z⟩
theorem Rt.tabs {Ps : List Addr} {S S' : List Addr} {H0 : Hp} {P : Bool → Prop} {Q : VK} (out : Rt (Ps.map tab) S H0 tBl P Q) : Rt (Ps.map tab) S' H0 tBl P Q := fun v y H' py bt al c r => out v y H' py bt al (fun r m => by
  obtain ⟨p, hp, rfl⟩ := List.mem_map.mp m
  exact c _ (List.mem_map.mpr ⟨p, hp, rfl⟩)) r
end
/-! ### a list over a drawn range -/
section
variable {α β : Type} {W : Wd} {K : PySem.W.Frag} {t : Ty α} {u : Ty β} {wi : TI} {g : TG} {as : α → List (Nat × SF)} {tt : TT} {tb : TE}
theorem evx_lcx {X : List α → Prop} {P : α → Bool → Prop} {R : α → β → Prop} {vs : List Nat} (h : Ivx W wi t X) (tg : Tgt g t as) (hi : ∀ x, ∀ p ∈ as x, p.1 ∈ vs) (hl : ∀ xs, X xs → xs.length < sizeLine)
    (ht : ∀ D φ F x, (∀ f ∈ W.F, f ∈ F) → Etx ((W.el D φ F vs).puts (as x)) tt (P x))
    (he : ∀ D φ F x, (∀ f ∈ W.F, f ∈ F) → P x true → Evx ((W.el D φ F vs).puts (as x)) tb u (R x)) (hp : ∀ (W : Wd) x, (W.puts (as x)).H0 = W.H0 ∧ (W.puts (as x)).M = W.M ∧ (W.puts (as x)).S = W.S ∧ (W.puts (as x)).L = W.L ∧ (W.puts (as x)).F = W.F := by intros; exact ⟨rfl, rfl, rfl, rfl, rfl⟩) :
    Evx W (tLc wi g tt tb vs) (tLs K u) (fun ys => ∃ xs, X xs ∧ LcR P R xs ys) := fun σ H o Q q => h σ H o _ fun xs J H1 f px g1 fp wk =>
  evx_lc (W := { W with F := f :: W.F }) (wi := fun _ H R => R J H) (fun σ' H' o' R' q' => q' J H' f (Go1.refl o') (o'.facts f (List.mem_cons_self ..)) wk) tg hi (hl xs px) (fun D φ F x hF _ => ht D φ F x fun q m => hF q (List.mem_cons_of_mem _ m)) (fun D φ F x hF _ pt => he D φ F x (fun q m => hF q (List.mem_cons_of_mem _ m)) pt) hp σ H1 (Ok.know g1.ok fp) Q fun v ys H2 r g2 rv =>
    q v ys H2 ⟨xs, px, r⟩ (g1.trans ⟨⟨g2.ok.nod, g2.ok.own, g2.ok.at_, g2.ok.ms, g2.ok.al, g2.ok.bt, g2.ok.len, fun q m => g2.ok.facts q (List.mem_cons_of_mem _ m), g2.ok.slots⟩, g2.up⟩) rv
end
/-! ### so many spaces -/
theorem fold32 : ∀ (n : Nat) (acc : Array Nat), (List.replicate n #[32]).foldl (· ++ ·) acc = acc ++ (List.replicate n 32).toArray
  | 0, acc => by simp
  | n + 1, acc => by
    rw [List.replicate_succ, List.foldl_cons, fold32 n, Array.append_assoc]
    congr 1
    rw [List.replicate_succ]
    simp
def rSpc : R2 := fun x y H Q => ∃ n : Nat, x = .str (" " : Str) ∧ y = .int (n : Int) ∧ n ≤ 1000 ∧ Q (.str (SX.S (List.replicate n 32))) H
theorem op_spc {X : Cx} : OpR X (binaryOp .Mult) rSpc := by
  intro pins s σ H x y v u Q I rx ry h
  obtain ⟨n, rfl, rfl, h1, q⟩ := h
  obtain ⟨t, rfl⟩ := rx
  obtain ⟨t', rfl⟩ := ry
  have one : (" " : Str) = SX.S [32] := TL.ext_tl (by decide +kernel)
  have len : (" " : Str).length = 1 := by decide +kernel
  have big : (1000 : Nat) ≤ sizeLine := by decide
  refine PySem.P.mul_str ?_ (fun a b => ?_) (fun _ _ => ?_) ?_
  · rw [decide_eq_false (by omega), decide_eq_false (by omega)]; rfl
  · have h9 : (2 ^ 63 - 1) / (n : Int) ≥ 1000 := by
      rw [ge_iff_le, Int.le_ediv_iff_mul_le (by omega)]
      omega
    rw [len]
    omega
  · show decide ((" " : Str).length * ((n : Int).toNat) > sizeLine) = false
    rw [Int.toNat_natCast, len]
    exact decide_eq_false (by omega)
  · by_cases n0 : n = 0
    · subst n0
      rw [if_pos (by decide)]
      have e : SX.S (List.replicate 0 32) = Str.empty := TL.ext_tl (by decide +kernel)
      rw [e] at q
      exact ⟨by decide, .str _, H, I.tok _, ⟨_, rfl⟩, q⟩
    · rw [if_neg (by omega)]
      by_cases n1 : n = 1
      · subst n1
        rw [if_pos (by decide)]
        have e : SX.S (List.replicate 1 32) = (" " : Str) := one.symm
        rw [e] at q
        exact ⟨.str _, H, I, ⟨_, rfl⟩, q⟩
      · have e1 : ((n : Int) == 1) = false := beq_eq_false_iff_ne.mpr (by omega)
        have e2 : ((" " : Str).length == 0) = false := by rw [len]; rfl
        rw [e1, e2, if_neg (by simp), Int.toNat_natCast]
        have e3 : (" " : Str).cps = #[32] := by decide +kernel
        have e4 : (⟨(List.replicate n (" " : Str).cps).foldl (· ++ ·) #[]⟩ : Str) = SX.S (List.replicate n 32) := by
          rw [e3, fold32, Array.empty_append]
        rw [e4]
        exact ⟨by
          show (SX.S (List.replicate n 32)).length ≤ sizeLine
          rw [SX.S_len, List.length_replicate]; omega, .str _, H, I.tok _, ⟨_, rfl⟩, q⟩
section
variable {W : Wd} {K : PySem.W.Frag} {ta tb : TE}
theorem evx_spc {P : Int → Prop} (ha : Ev W ta tSt (" " : Str)) (hb : Evx W tb tInt P) (hn : ∀ n, P n → 0 ≤ n ∧ n ≤ 1000) : Evx W (tOp rSpc ta tb) tSt (fun z => ∃ n : Nat, P (n : Int) ∧ n ≤ 1000 ∧ z = SX.S (List.replicate n 32)) := fun σ H o Q q =>
  ha σ H o _ fun v H1 g1 r1 => hb σ H1 g1.ok _ fun v2 m H2 pm g2 r2 => by
    obtain ⟨b1, b2⟩ := hn m pm
    have e : ((m.toNat : Nat) : Int) = m := Int.toNat_of_nonneg b1
    exact ⟨m.toNat, r1, by rw [e]; exact r2, by omega, q _ _ H2 ⟨m.toNat, by rw [e]; exact pm, by omega, rfl⟩ (g1.trans g2) rfl⟩
end
/-! ### a text's letter at a drawn place -/
section
variable {W : Wd} {K : PySem.W.Frag} {ta tb : TE} {z : Str}
theorem evx_ixS {P : Int → Prop} (ha : Ev W ta tSt z) (hb : Evx W tb tInt P) (hl : z.length ≤ sizeLine) (e : ∀ n, P n → ∃ c, atI z.cps.toList n = some c) : Evx W (tOp rIxS ta tb) tSt (fun y => ∃ n c, P n ∧ atI z.cps.toList n = some c ∧ y = ⟨#[c]⟩) := fun σ H o Q q =>
  ha σ H o _ fun v H1 g1 r1 => hb σ H1 g1.ok _ fun v2 n H2 p2 g2 r2 => by
    obtain ⟨c, hc⟩ := e n p2
    exact ⟨z, n, c, r1, r2, hl, hc, q _ _ H2 ⟨n, c, p2, hc, rfl⟩ (g1.trans g2) rfl⟩
end
/-! ### a law with tables whose script is short -/
abbrev spLawL (K : PySem.W.Frag) (n : Nat) (Ps : List Addr) : Sp := spN (fun _ => Ps.map tab) (fun ns : List Int => [(tSc K).is ns]) tBl (fun ns => ns.length ≤ n) (fun _ y => y = true)
theorem spLn_in {K : PySem.W.Frag} {n : Nat} {H : Hp} {a : Addr} {ns : List Int} {Q : VK} {E : XK} {Ps : List Addr} (hn : ns.length ≤ n) (nd : Ps.Nodup) (hP : ∀ P ∈ Ps, H P = some (.tbl #[])) (hS : SqL K H a (ns.map V.int)) (q : ∀ H', Q (.bl true) H') : spLawL K n Ps [.ref a] H Q E := by
  have off : ∀ {o : HO}, H a = some o → (∀ x, o ≠ .tbl x) → a ∉ Ps := fun h1 h2 z => by
    rw [hP a z] at h1
    exact h2 _ (Option.some.inj h1).symm
  refine ⟨Ps, ns, fun b m => (fun z => by rw [hP b m] at z; cases z), by rw [fps_tabs]; exact nd, fun b m => by rw [fps_tabs] at m; exact m, fun r m => ?_, ⟨⟨a, rfl, ?_⟩, trivial⟩, hn, fun v y H' py _ _ _ r => ?_⟩
  · obtain ⟨p, hp, rfl⟩ := List.mem_map.mp m
    exact ⟨_, hP p hp, #[], rfl, trivial⟩
  · rcases hS with (hS | ⟨o, hS⟩) | hS
    · exact .inl (.inl (by rw [hid_of (off hS (by simp))]; exact hS))
    · exact .inl (.inr ⟨o, by rw [hid_of (off hS (by simp))]; exact hS⟩)
    · exact .inr hS
  · obtain rfl : v = .bl y := r
    obtain rfl : y = true := py
    exact q H'
theorem walk_tabsL {l : PySem.W.OpenLaw} {n k : Nat} {q : Program} {loose : List Str} {XP : (Str → Option Value) → Heap → Prop} {YP : World → Heap → Prop} {d : DefRec} {K : Params → PySem.W.Frag} {x : Str} (ts : List Str)
    (hn : l.most = some n) (hn2 : n ≤ sizeLine) (hdf : d.params.defaults = []) (hr : Room k callerA) (hY : ∀ (w : World) (h : Heap), YP w h → (K w.params).In h) (hts : ∀ w : World, TabsIn (K w.params) q ts) (hnd : ∀ w : World, (tbsOf (K w.params) ts).Nodup)
    (F : ∀ (w : World) (mg : Str → Option Value) (fa : Addr) (h : Heap), (K w.params).In h → h.Ns mainGlobals mg → mg d.name = some (.ref fa) →
      ∃ fd : FuncData, (∀ (s : Shared) (u : Value), BindsTo s fd ⟨[u], []⟩ [(x, u)]) ∧
        ∀ base : Heap, (K w.params).In base → base.Ns mainGlobals mg → (∀ y ∈ ts, GxR.TabB base mg (tbOf (K w.params) y).1 (tbOf (K w.params) y).2) → FnOk l.prog w (K w.params) mg base CX0 k fa fd [x] (spLawL (K w.params) n (tbsOf (K w.params) ts))) :
    PySem.W.WalkO q loose XP YP l.row.toRowW d [] (fun f vs => PySem.call f vs) :=
  walk_ofG (CX := fun _ => CX0) (sp := fun w => spLawL (K w.params) n (tbsOf (K w.params) ts)) ts hn hn2 hdf hr hY hts F (fun w H a ns hl _ hT hS => spLn_in hl (hnd w) (fun P hP => by
    obtain ⟨y, hy, rfl⟩ := List.mem_map.mp hP
    exact hT y hy) hS fun _ => rfl) (fun _ _ _ _ _ z => z)
end Cs
set_option maxHeartbeats 4000000
namespace Cs
open PySem PySem.Spec PyProof.Rows L2
/-! ### lists of what is drawn -/
section
variable {α β : Type} {W : Wd} {K : PySem.W.Frag} {ta tb : TE} {t : Ty α} {x : α} {ar : TA} {i : Nat} {us : TS} {D : Ends}
def Elx (W : Wd) (ar : TA) (t : Ty α) (P : List α → Prop) : Prop := ∀ σ H, Ok W σ H → ∀ Q : List V → Hp → Prop, (∀ vs xs H', P xs → Go1 W σ H H' → All2 (t.r (hid W.S H')) vs xs → Q vs H') → ar σ H Q
theorem elx_nil : Elx W tNil t (fun xs => xs = []) := fun σ H o Q q => q [] [] H rfl (Go1.refl o) trivial
theorem elx_cons {P : α → Prop} {R : List α → Prop} (ha : Evx W ta t P) (hr : Elx W ar t R) : Elx W (tCons ta ar) t (fun xs => ∃ y ys, P y ∧ R ys ∧ xs = y :: ys) := fun σ H o Q q =>
  ha σ H o _ fun v y H1 py g1 r1 => hr σ H1 g1.ok _ fun vs ys H2 pys g2 r2 => q (v :: vs) (y :: ys) H2 ⟨y, ys, py, pys, rfl⟩ (g1.trans g2) ⟨t.mono g2.up r1, r2⟩
theorem evx_lst {P : List α → Prop} (h : Elx W ar t P) (hl : ∀ xs, P xs → xs.length ≤ sizeLine) : Evx W (tLst ar) (tLs K t) P := fun σ H o Q q =>
  h σ H o _ fun vs xs H1 px g1 r1 => ⟨by rw [r1.length]; exact hl xs px, fun p np => q _ xs _ px (g1.trans (g1.ok.new np)) ⟨p, vs, rfl, (by rw [hid_of (g1.ok.off np)]; exact upd_same), All2.mono (fun _ _ => t.mono (g1.ok.new np).up) r1⟩⟩
theorem go_newNx {P : List α → Prop} (h : Elx W ar t P) (hl : ∀ xs, P xs → xs.length ≤ sizeLine) (k : ∀ p xs, P xs → p ∉ W.S → Go ⟨W.H0, W.M, p :: W.S, cell p (cLs t xs) :: W.L, W.F, W.G.set i (some (tRf.is p))⟩ us D) : Go W (tSeq (tAsg (tLst ar) (gName i)) us) D := fun σ H o =>
  h σ H o _ fun vs xs H1 px g1 r1 => ⟨by rw [r1.length]; exact hl xs px, fun p np => k p xs px (g1.ok.off np) _ _ (Ok.put (i := i) (f := tRf.is p) (g1.ok.cell (ψ := cLs t xs) np ⟨vs, rfl, r1⟩).1 rfl)⟩
theorem evx_strI {P : Int → Prop} (h : Evx W ta tInt P) (hi : ∀ i, P i → i.natAbs.log2 < 1920) : Evx W (tCB (fun xs H Q => ∃ i : Int, xs = [.int i] ∧ i.natAbs.log2 < 1920 ∧ Q (.str (toString i)) H) (tCons ta tNil)) tSt (fun z => ∃ i, P i ∧ z = Str.ofString (toString i)) := fun σ H o Q q =>
  h σ H o _ fun v i H1 pi g1 e => ⟨i, by rw [show v = .int i from e], hi i pi, q _ _ H1 ⟨i, pi, rfl⟩ g1 rfl⟩
/-- one of a list, by a drawn place -/
theorem evx_pick {xs : List α} {P : Int → Prop} (h : Ev W ta (tLs K t) xs) (hb : Evx W tb tInt P) (hn : ∀ n, P n → 0 ≤ n ∧ n < (xs.length : Int)) : Evx W (tOp (rIxL K) ta tb) t (fun x => x ∈ xs) := evx_ixL h hb fun n pn => by
  obtain ⟨h0, h1⟩ := hn n pn
  obtain ⟨j, rfl⟩ := Int.eq_ofNat_of_zero_le h0
  have hj : j < xs.length := by omega
  exact ⟨xs[j], List.getElem_mem hj, atI_nat (List.getElem?_eq_getElem hj)⟩
end
theorem log_small {i : Int} (h : i.natAbs < 10 ^ 18) : i.natAbs.log2 < 1920 := by
  by_cases h0 : i.natAbs = 0
  · rw [h0]; decide
  · exact Nat.lt_of_lt_of_le ((Nat.log2_lt h0).mpr (Nat.lt_of_lt_of_le h (show (10 : Nat) ^ 18 ≤ 2 ^ 60 by decide))) (by decide)
theorem str_pos {i : Int} (h : 0 < i) : Str.ofString (toString i) = SX.S (TL.numL i.natAbs) := by
  rw [int_S]
  unfold sgn
  rw [if_neg (by omega), List.nil_append]
end Cs
set_option maxHeartbeats 4000000
namespace Cs
open PySem PySem.Spec PyProof.Rows L2
/-! ### the calendar -/
def lens : List Int := [31, 28, 31, 30, 31, 30, 31, 31, 30, 31, 30, 31]
def mlen (i : Nat) : Int := lens.getD i 0
def cum (i : Nat) : Int := (lens.take i).sum
theorem cum_mono : ∀ i, i < 13 → ∀ j, j < 13 → i ≤ j → cum i ≤ cum j := by decide
theorem cum_succ : ∀ i, i < 12 → cum (i + 1) = cum i + mlen i := by decide
theorem mlen_pos : ∀ i, i < 12 → 28 ≤ mlen i ∧ mlen i ≤ 31 := by decide
theorem cum_zero : cum 0 = 0 := by decide
theorem cum_all : cum 12 = 365 := by decide
theorem cum_bd : ∀ i, i < 13 → 0 ≤ cum i ∧ cum i ≤ 365 := by decide
theorem lens_at : ∀ i, i < 12 → (lens.map V.int)[i]? = some (.int (mlen i)) := by decide
structure DateR (day y : Int) (i : Nat) (n : Int) : Prop where
  hi : i < 12
  n1 : 1 ≤ n
  n2 : n ≤ mlen i
  e : day = 365 * y + cum i + n - 1
theorem DateR.rest {day y n : Int} {i : Nat} (h : DateR day y i n) : 0 ≤ cum i + n - 1 ∧ cum i + n - 1 < 365 := by
  have h1 := cum_succ i h.hi
  have h2 := cum_mono (i + 1) (by have := h.hi; omega) 12 (by decide) (by have := h.hi; omega)
  have h3 := (cum_bd i (by have := h.hi; omega)).1
  have h4 := h.n1
  have h5 := h.n2
  rw [cum_all] at h2
  omega
theorem DateR.unique {day y y' n n' : Int} {i i' : Nat} (h : DateR day y i n) (g : DateR day y' i' n') : y = y' ∧ i = i' ∧ n = n' := by
  have h1 := h.rest
  have g1 := g.rest
  have h2 := h.e
  have g2 := g.e
  have ey : y = y' := by omega
  subst ey
  have er : cum i + n = cum i' + n' := by omega
  have hi := h.hi
  have gi := g.hi
  have hs := cum_succ i hi
  have gs := cum_succ i' gi
  have hn1 := h.n1
  have hn2 := h.n2
  have gn1 := g.n1
  have gn2 := g.n2
  rcases Nat.lt_trichotomy i i' with z | z | z
  · have := cum_mono (i + 1) (by omega) i' (by omega) z
    omega
  · subst z
    exact ⟨rfl, rfl, by omega⟩
  · have := cum_mono (i' + 1) (by omega) i (by omega) z
    omega
theorem DateR.y0 {day y n : Int} {i : Nat} (h : DateR day y i n) (d : 0 ≤ day) : 0 ≤ y := by
  have h1 := h.rest
  have h2 := h.e
  omega
/-- a later day has a greater date -/
theorem DateR.later {day day' y y' n n' : Int} {i i' : Nat} (h : DateR day y i n) (g : DateR day' y' i' n') (l : day < day') : y < y' ∨ (y = y' ∧ (i < i' ∨ (i = i' ∧ n < n'))) := by
  have h1 := h.rest
  have g1 := g.rest
  have h2 := h.e
  have g2 := g.e
  by_cases c : y < y'
  · exact .inl c
  · have ey : y = y' := by omega
    subst ey
    refine .inr ⟨rfl, ?_⟩
    have hi := h.hi
    have gi := g.hi
    have hn1 := h.n1
    have gn2 := g.n2
    have gs := cum_succ i' gi
    rcases Nat.lt_trichotomy i i' with z | z | z
    · exact .inl z
    · subst z
      exact .inr ⟨rfl, by omega⟩
    · have := cum_mono (i' + 1) (by omega) i (by omega) z
      omega
/-! ### the month of a day -/
theorem dateR_ex (day : Int) : ∃ y i n, DateR day y i n := by
  have r0 : 0 ≤ day % 365 := Int.emod_nonneg _ (by decide)
  have r1 : day % 365 < 365 := Int.emod_lt_of_pos _ (by decide)
  have key : ∀ (i : Nat) (c m : Int), i < 12 → cum i = c → mlen i = m → c ≤ day % 365 → day % 365 < c + m → ∃ y i n, DateR day y i n := fun i c m hi hc hm h1 h2 =>
    ⟨day / 365, i, day % 365 - c + 1, hi, by omega, by omega, by rw [hc]; omega⟩
  by_cases h0 : day % 365 < 31
  · exact key 0 0 31 (by decide) (by decide) (by decide) (by omega) (by omega)
  by_cases h1 : day % 365 < 59
  · exact key 1 31 28 (by decide) (by decide) (by decide) (by omega) (by omega)
  by_cases h2 : day % 365 < 90
  · exact key 2 59 31 (by decide) (by decide) (by decide) (by omega) (by omega)
  by_cases h3 : day % 365 < 120
  · exact key 3 90 30 (by decide) (by decide) (by decide) (by omega) (by omega)
  by_cases h4 : day % 365 < 151
  · exact key 4 120 31 (by decide) (by decide) (by decide) (by omega) (by omega)
  by_cases h5 : day % 365 < 181
  · exact key 5 151 30 (by decide) (by decide) (by decide) (by omega) (by omega)
  by_cases h6 : day % 365 < 212
  · exact key 6 181 31 (by decide) (by decide) (by decide) (by omega) (by omega)
  by_cases h7 : day % 365 < 243
  · exact key 7 212 31 (by decide) (by decide) (by decide) (by omega) (by omega)
  by_cases h8 : day % 365 < 273
  · exact key 8 243 30 (by decide) (by decide) (by decide) (by omega) (by omega)
  by_cases h9 : day % 365 < 304
  · exact key 9 273 31 (by decide) (by decide) (by decide) (by omega) (by omega)
  by_cases h10 : day % 365 < 334
  · exact key 10 304 30 (by decide) (by decide) (by decide) (by omega) (by omega)
  · exact key 11 334 31 (by decide) (by decide) (by decide) (by omega) (by omega)
theorem mon_ex (day : Int) : ∃ m : Int, ∃ y i n, DateR day y i n ∧ m = 12 * y + (i : Int) := by
  obtain ⟨y, i, n, h⟩ := dateR_ex day
  exact ⟨_, y, i, n, h, rfl⟩
noncomputable def mon (day : Int) : Int := Classical.choose (mon_ex day)
theorem DateR.mon {day y n : Int} {i : Nat} (h : DateR day y i n) : mon day = 12 * y + (i : Int) := by
  obtain ⟨y', i', n', g, e⟩ := Classical.choose_spec (mon_ex day)
  obtain ⟨rfl, rfl, _⟩ := h.unique g
  exact e
theorem mon_mono {a b : Int} (h : a ≤ b) : mon a ≤ mon b := by
  rcases Int.lt_or_eq_of_le h with z | z
  · obtain ⟨y, i, n, ha⟩ := dateR_ex a
    obtain ⟨y', i', n', hb⟩ := dateR_ex b
    rw [ha.mon, hb.mon]
    have hi := ha.hi
    have hi' := hb.hi
    rcases ha.later hb z with q | ⟨q, q2 | ⟨q2, _⟩⟩ <;> omega
  · rw [z]; exact Int.le_refl _
/-- days not further than two days apart: the same number of the month is the same month -/
theorem mon_near {a b y y' n n' : Int} {i i' : Nat} (ha : DateR a y i n) (hb : DateR b y' i' n') (h : a ≤ b) (h2 : b ≤ a + 2) : ((i' : Int) + 1 = (i : Int) + 1) ↔ mon b = mon a := by
  rw [ha.mon, hb.mon]
  have hi := ha.hi
  have hi' := hb.hi
  have e1 := ha.e
  have e2 := hb.e
  have r1 := ha.rest
  have r2 := hb.rest
  have n1 := ha.n1
  have n2 := hb.n1
  have l1 := ha.n2
  have l2 := hb.n2
  have m1 := (mlen_pos i hi).2
  have m2 := (mlen_pos i' hi').2
  constructor
  · intro e
    have e : i = i' := by omega
    subst e
    have : y = y' := by omega
    rw [this]
  · intro e
    omega
/-! ### the day that a word makes of a day -/
noncomputable def adj (day : Int) (w : Str) : Int :=
  if day % 7 ≤ 4 ∨ w = "none" then day else if w = "before" then day - day % 7 + 4 else if w = "modified" ∧ mon (day - day % 7 + 7) ≠ mon day then day - day % 7 + 4 else day - day % 7 + 7
theorem adj_same {d : Int} {w : Str} (h : d % 7 ≤ 4 ∨ w = "none") : adj d w = d := if_pos h
theorem adj_wk {d : Int} {w : Str} (h : ¬ (d % 7 ≤ 4 ∨ w = "none")) : adj d w = if w = "before" then d - d % 7 + 4 else if w = "modified" ∧ mon (d - d % 7 + 7) ≠ mon d then d - d % 7 + 4 else d - d % 7 + 7 := if_neg h
theorem adj_cases {d : Int} {w : Str} (h : ¬ (d % 7 ≤ 4 ∨ w = "none")) : adj d w = d - d % 7 + 4 ∨ adj d w = d - d % 7 + 7 := by
  unfold adj
  rw [if_neg h]
  by_cases h1 : w = "before"
  · rw [if_pos h1]; exact .inl rfl
  · rw [if_neg h1]
    by_cases h2 : w = "modified" ∧ mon (d - d % 7 + 7) ≠ mon d
    · rw [if_pos h2]; exact .inl rfl
    · rw [if_neg h2]; exact .inr rfl
theorem adj_bus {d : Int} {w : Str} (h : w ≠ "none") : adj d w % 7 ≤ 4 := by
  by_cases c : d % 7 ≤ 4 ∨ w = "none"
  · rw [adj_same c]
    rcases c with c | c
    · exact c
    · exact absurd c h
  · rcases adj_cases c with e | e <;> rw [e] <;> omega
theorem adj_idem (d : Int) (w : Str) : adj (adj d w) w = adj d w := by
  by_cases h : w = "none"
  · exact adj_same (.inr h)
  · exact adj_same (.inl (adj_bus h))
theorem adj_nn {d : Int} {w : Str} (h : 0 ≤ d) : 0 ≤ adj d w := by
  by_cases c : d % 7 ≤ 4 ∨ w = "none"
  · rw [adj_same c]; exact h
  · have c1 : ¬ d % 7 ≤ 4 := fun z => c (.inl z)
    rcases adj_cases c with e | e <;> rw [e] <;> omega
theorem adj_mono {d e : Int} {w : Str} (h : d ≤ e) : adj d w ≤ adj e w := by
  by_cases hn : w = "none"
  · rw [adj_same (.inr hn), adj_same (.inr hn)]; exact h
  by_cases c : d % 7 ≤ 4
  · rw [adj_same (.inl c)]
    by_cases c2 : e % 7 ≤ 4
    · rw [adj_same (.inl c2)]; exact h
    · rcases adj_cases (d := e) (w := w) (fun z => z.elim c2 hn) with q | q <;> rw [q] <;> omega
  · have hc := adj_cases (d := d) (w := w) (fun z => z.elim c hn)
    by_cases c2 : e % 7 ≤ 4
    · rw [adj_same (.inl c2)]
      rcases hc with q | q <;> rw [q] <;> omega
    · have hc2 := adj_cases (d := e) (w := w) (fun z => z.elim c2 hn)
      by_cases wk : e - e % 7 = d - d % 7
      · -- the same week
        rw [adj_wk (d := d) (w := w) (fun z => Or.elim z c hn), adj_wk (d := e) (w := w) (fun z => Or.elim z c2 hn)]
        by_cases hb : w = "before"
        · rw [if_pos hb, if_pos hb]; omega
        · rw [if_neg hb, if_neg hb]
          by_cases h1 : w = "modified" ∧ mon (d - d % 7 + 7) ≠ mon d
          · rw [if_pos h1]
            by_cases h2 : w = "modified" ∧ mon (e - e % 7 + 7) ≠ mon e
            · rw [if_pos h2]; omega
            · rw [if_neg h2]; omega
          · rw [if_neg h1]
            have h2 : ¬ (w = "modified" ∧ mon (e - e % 7 + 7) ≠ mon e) := fun z => by
              refine h1 ⟨z.1, fun q => z.2 ?_⟩
              rw [wk] at z ⊢
              have m1 := mon_mono h
              have m2 := mon_mono (a := e) (b := d - d % 7 + 7) (by omega)
              omega
            rw [if_neg h2]; omega
      · rcases hc with q | q <;> rcases hc2 with q2 | q2 <;> rw [q, q2] <;> omega
/-! ### months -/
def fsm (M : Int) : Int := 365 * (M / 12) + cum (M % 12).toNat
def ml (M : Int) : Int := mlen (M % 12).toNat
theorem ix12 (M : Int) : (M % 12).toNat < 12 := by
  have := Int.emod_nonneg M (show (12 : Int) ≠ 0 by decide)
  have := Int.emod_lt_of_pos M (show (0 : Int) < 12 by decide)
  omega
theorem ml_bd (M : Int) : 28 ≤ ml M ∧ ml M ≤ 31 := mlen_pos _ (ix12 M)
theorem fsm_lt {M N : Int} (h : M < N) : fsm M + ml M ≤ fsm N := by
  have i1 := ix12 M
  have i2 := ix12 N
  have s := cum_succ _ i1
  have b1 := cum_mono ((M % 12).toNat + 1) (by omega) 12 (by decide) (by omega)
  rw [cum_all] at b1
  have b0 := (cum_bd (N % 12).toNat (by omega)).1
  have e1 : (M % 12).toNat = M % 12 := Int.toNat_of_nonneg (Int.emod_nonneg M (by decide))
  have e2 : (N % 12).toNat = N % 12 := Int.toNat_of_nonneg (Int.emod_nonneg N (by decide))
  unfold fsm ml
  by_cases c : M / 12 = N / 12
  · have := cum_mono ((M % 12).toNat + 1) (by omega) (N % 12).toNat (by omega) (by omega)
    omega
  · omega
noncomputable def num (s : Int) : Int := s - fsm (mon s) + 1
theorem fsm_of (y : Int) (i : Nat) (hi : i < 12) : fsm (12 * y + (i : Int)) = 365 * y + cum i ∧ ml (12 * y + (i : Int)) = mlen i := by
  have e1 : (12 * y + (i : Int)) / 12 = y := by omega
  have e2 : ((12 * y + (i : Int)) % 12).toNat = i := by omega
  unfold fsm ml
  rw [e1, e2]
  exact ⟨rfl, rfl⟩
theorem DateR.num {s y n : Int} {i : Nat} (h : DateR s y i n) : num s = n := by
  unfold Cs.num
  rw [h.mon, (fsm_of y i h.hi).1]
  have := h.e
  omega
theorem num_bd (s : Int) : 1 ≤ num s ∧ num s ≤ ml (mon s) := by
  obtain ⟨y, i, n, h⟩ := dateR_ex s
  rw [h.num, h.mon, (fsm_of y i h.hi).2]
  exact ⟨h.n1, h.n2⟩
theorem day_eq (s : Int) : s = fsm (mon s) + num s - 1 := by
  unfold num
  omega
def mn (n m : Int) : Int := if m < n then m else n
theorem mn_le (n m : Int) : mn n m ≤ n ∧ mn n m ≤ m := by
  unfold mn
  by_cases c : m < n
  · rw [if_pos c]; omega
  · rw [if_neg c]; omega
theorem mn_or (n m : Int) : mn n m = n ∨ mn n m = m := by
  unfold mn
  by_cases c : m < n
  · rw [if_pos c]; exact .inr rfl
  · rw [if_neg c]; exact .inl rfl
theorem mn_mono {n n' : Int} (m : Int) (h : n ≤ n') : mn n m ≤ mn n' m := by
  have h1 := mn_le n m
  rcases mn_or n' m with e | e <;> rw [e] <;> omega
noncomputable def lat (s c : Int) : Int := fsm (mon s + c) + mn (num s) (ml (mon s + c)) - 1
theorem lat_bd (s c : Int) : 1 ≤ mn (num s) (ml (mon s + c)) ∧ mn (num s) (ml (mon s + c)) ≤ ml (mon s + c) := by
  have h1 := num_bd s
  have h2 := ml_bd (mon s + c)
  have h3 := mn_le (num s) (ml (mon s + c))
  rcases mn_or (num s) (ml (mon s + c)) with e | e <;> rw [e] <;> rw [e] at h3 <;> omega
theorem lat_date (s c : Int) : DateR (lat s c) ((mon s + c) / 12) ((mon s + c) % 12).toNat (mn (num s) (ml (mon s + c))) := by
  have h := lat_bd s c
  exact ⟨ix12 _, h.1, h.2, by unfold lat fsm; rfl⟩
theorem mon_lat (s c : Int) : mon (lat s c) = mon s + c := by
  rw [(lat_date s c).mon, Int.toNat_of_nonneg (Int.emod_nonneg _ (by decide))]
  omega
theorem num_lat (s c : Int) : num (lat s c) = mn (num s) (ml (mon s + c)) := (lat_date s c).num
theorem lat_zero (s : Int) : lat s 0 = s := by
  have h := num_bd s
  unfold lat
  rw [Int.add_zero]
  have e : mn (num s) (ml (mon s)) = num s := by
    unfold mn
    rw [if_neg (by omega)]
  rw [e]
  exact (day_eq s).symm
theorem lat_two (s a b : Int) : lat (lat s a) b ≤ lat s (a + b) := by
  have e : lat (lat s a) b = fsm (mon (lat s a) + b) + mn (num (lat s a)) (ml (mon (lat s a) + b)) - 1 := rfl
  rw [e, mon_lat, num_lat, Int.add_assoc]
  have h1 := (mn_le (num s) (ml (mon s + a))).1
  have h2 := mn_mono (ml (mon s + (a + b))) h1
  unfold lat
  omega
theorem lat_mono {s t : Int} (a : Int) (h : s ≤ t) : lat s a ≤ lat t a := by
  have hm := mon_mono h
  rcases Int.lt_or_eq_of_le hm with z | z
  · have h1 := fsm_lt (M := mon s + a) (N := mon t + a) (by omega)
    have h2 := lat_bd s a
    have h3 := lat_bd t a
    unfold lat
    omega
  · have d1 := day_eq s
    have d2 := day_eq t
    rw [z] at d1
    have := mn_mono (ml (mon t + a)) (show num s ≤ num t by omega)
    unfold lat
    rw [z]
    omega
theorem lat_lt (s : Int) {a b : Int} (h : a < b) : lat s a < lat s b := by
  have h1 := fsm_lt (M := mon s + a) (N := mon s + b) (by omega)
  have h2 := lat_bd s a
  have h3 := lat_bd s b
  unfold lat
  omega
theorem lat_ge {s m : Int} (h : 1 ≤ m) : ∀ t : Nat, s + (t : Int) ≤ lat s (m * (t : Int))
  | 0 => by
    rw [show m * ((0 : Nat) : Int) = 0 by simp, lat_zero]
    simp
  | t + 1 => by
    have ih := lat_ge (s := s) h t
    have := lat_lt s (a := m * (t : Int)) (b := m * ((t + 1 : Nat) : Int)) (by rw [Int.natCast_succ, Int.mul_add]; omega)
    omega
theorem lat_nn {s c : Int} (h : 0 ≤ s) (hc : 0 ≤ c) : 0 ≤ lat s c := by
  rcases Int.lt_or_eq_of_le hc with z | z
  · have := lat_lt s z
    rw [lat_zero] at this
    omega
  · rw [← z, lat_zero]
    exact h
/-! ### the days of a schedule -/
structure SchedOk (s e m : Int) (T : Nat) : Prop where
  lo : ∀ t : Nat, t < T → lat s (m * (t : Int)) < e
  hi : e ≤ lat s (m * (T : Int))
theorem SchedOk.unique {s e m : Int} {T T' : Nat} (h : SchedOk s e m T) (g : SchedOk s e m T') : T = T' := by
  rcases Nat.lt_trichotomy T T' with z | z | z
  · have := g.lo T z
    have := h.hi
    omega
  · exact z
  · have := h.lo T' z
    have := g.hi
    omega
noncomputable def days0 (s m : Int) (T : Nat) : List Int := (List.range T).map fun t => lat s (m * ((t : Nat) : Int))
theorem days0_succ (s m : Int) (T : Nat) : days0 s m (T + 1) = days0 s m T ++ [lat s (m * (T : Int))] := by
  unfold days0
  rw [List.range_succ, List.map_append]
  rfl
theorem days0_len (s m : Int) (T : Nat) : (days0 s m T).length = T := by simp [days0]
noncomputable def sched (s e m : Int) (T : Nat) : List Int := days0 s m T ++ [e]
theorem sched_len (s e m : Int) (T : Nat) : (sched s e m T).length = T + 1 := by simp [sched, days0]
noncomputable def sday (s e m : Int) (T j : Nat) : Int := if j < T then lat s (m * (j : Int)) else e
theorem sched_at {s e m : Int} {T j : Nat} (h : j ≤ T) : (sched s e m T)[j]? = some (sday s e m T j) := by
  unfold sched sday
  rcases Nat.lt_or_ge j T with z | z
  · rw [if_pos z, List.getElem?_append_left (by rw [days0_len]; exact z)]
    simp [days0, z]
  · have : j = T := by omega
    subst this
    rw [if_neg (by omega), List.getElem?_append_right (by rw [days0_len]; omega), days0_len, Nat.sub_self]
    rfl
theorem sched_up {s e m : Int} {T j : Nat} (h : SchedOk s e m T) (hm : 1 ≤ m) (hj : j < T) : sday s e m T j < sday s e m T (j + 1) := by
  unfold sday
  rw [if_pos hj]
  by_cases c : j + 1 < T
  · rw [if_pos c]
    exact lat_lt s (by rw [Int.natCast_succ, Int.mul_add]; omega)
  · rw [if_neg c]
    exact h.lo j hj
theorem SchedOk.bd {s e m : Int} {T : Nat} (h : SchedOk s e m T) (hm : 1 ≤ m) (he : s < e) : (T : Int) ≤ e - s ∧ 1 ≤ T := by
  constructor
  · rcases T with _ | T
    · simp; omega
    · have := h.lo T (by omega)
      have := lat_ge (s := s) hm T
      rw [Int.natCast_succ]
      omega
  · rcases T with _ | T
    · have := h.hi
      rw [show m * ((0 : Nat) : Int) = 0 by simp, lat_zero] at this
      omega
    · omega
theorem sday_nn {s e m : Int} {T j : Nat} (s0 : 0 ≤ s) (e0 : 0 ≤ e) (hm : 1 ≤ m) : 0 ≤ sday s e m T j := by
  unfold sday
  by_cases c : j < T
  · rw [if_pos c]
    exact lat_nn s0 (Int.mul_nonneg (by omega) (by omega))
  · rw [if_neg c]
    exact e0
theorem sday_zero {s e m : Int} {T : Nat} (h : 1 ≤ T) : sday s e m T 0 = s := by
  unfold sday
  rw [if_pos (by omega), show m * ((0 : Nat) : Int) = 0 by simp, lat_zero]
theorem sday_end {s e m : Int} {T : Nat} : sday s e m T T = e := by
  unfold sday
  rw [if_neg (by omega)]
theorem sday_le {s e m : Int} {T j : Nat} (h : SchedOk s e m T) : sday s e m T j ≤ e := by
  unfold sday
  by_cases c : j < T
  · rw [if_pos c]
    exact Int.le_of_lt (h.lo j c)
  · rw [if_neg c]
    exact Int.le_refl _
/-! ### parts of a year -/
noncomputable def numP (c : Str) (d : Int) : Rat :=
  if c = "fixed" then Rat.divInt d 1 else if c = "thirty" then Rat.divInt (30 * mon d + 30 + mn (num d) 30) 1 else Rat.divInt (mon d + 1) 1 + Rat.divInt (num d - 1) (ml (mon d))
def dvs (c : Str) : Int := if c = "fixed" then 365 else if c = "thirty" then 360 else 12
theorem dvs_pos (c : Str) : 0 < dvs c := by
  unfold dvs
  by_cases h : c = "fixed"
  · rw [if_pos h]; decide
  · rw [if_neg h]
    by_cases h : c = "thirty"
    · rw [if_pos h]; decide
    · rw [if_neg h]; decide
theorem dvs_ne (c : Str) : ((dvs c : Int) : Rat) ≠ 0 := fun h => by
  have h2 := dvs_pos c
  have : dvs c = 0 := Rat.intCast_inj.mp h
  omega
noncomputable def lnumP (c : Str) (d : Int) : Rat :=
  if c = "fixed" then Rat.divInt d 365 else if c = "thirty" then Rat.divInt (30 * mon d + 30 + mn (num d) 30) 360 else Rat.divInt (mon d + 1) 12 + Rat.divInt (num d - 1) (12 * ml (mon d))
theorem lnum_is (c : Str) (d : Int) : lnumP c d = numP c d / (dvs c : Int) := by
  unfold lnumP numP dvs
  by_cases h : c = "fixed"
  · rw [if_pos h, if_pos h, if_pos h, Rat.divInt_eq_div, Rat.divInt_eq_div]
    grind
  · rw [if_neg h, if_neg h, if_neg h]
    by_cases h : c = "thirty"
    · rw [if_pos h, if_pos h, if_pos h, Rat.divInt_eq_div, Rat.divInt_eq_div]
      grind
    · rw [if_neg h, if_neg h, if_neg h, Rat.divInt_eq_div, Rat.divInt_eq_div, Rat.divInt_eq_div, Rat.divInt_eq_div]
      have hm := ml_bd (mon d)
      have : ((ml (mon d) : Int) : Rat) ≠ 0 := fun q => by
        have : ml (mon d) = 0 := Rat.intCast_inj.mp q
        omega
      have e : ((12 * ml (mon d) : Int) : Rat) = 12 * ((ml (mon d) : Int) : Rat) := by
        rw [Rat.intCast_mul]
        rfl
      rw [e]
      grind
noncomputable def prt (c : Str) (s e : Int) : Rat := (numP c e - numP c s) / (dvs c : Int)
theorem prt_law (c : Str) (s e : Int) : lnumP c e - lnumP c s = prt c s e := by
  rw [lnum_is, lnum_is]
  unfold prt
  grind
theorem prt_add (c : Str) (s e u : Int) : prt c s e + prt c e u = prt c s u := by
  unfold prt
  grind
theorem prt_self (c : Str) (s : Int) : prt c s s = 0 := by
  unfold prt
  grind
theorem rat_div_mono {a b c : Rat} (h : a ≤ b) (g : 0 < c) : a / c ≤ b / c := by
  rw [Rat.div_def, Rat.div_def]
  exact Rat.mul_le_mul_of_nonneg_right h (Rat.le_of_lt (Rat.inv_pos.mpr g))
theorem one_div (a : Int) : Rat.divInt a 1 = (a : Rat) := by
  rw [Rat.divInt_eq_div]
  grind
theorem rat_pos {a : Int} (h : 0 < a) : (0 : Rat) < (a : Rat) := Rat.intCast_pos.mpr h
theorem numP_mono (c : Str) {s e : Int} (h : s ≤ e) : numP c s ≤ numP c e := by
  unfold numP
  by_cases h1 : c = "fixed"
  · rw [if_pos h1, if_pos h1, one_div, one_div]
    exact Rat.intCast_le_intCast.mpr h
  · rw [if_neg h1, if_neg h1]
    have hm := mon_mono h
    have d1 := day_eq s
    have d2 := day_eq e
    have b1 := num_bd s
    have b2 := num_bd e
    have l1 := ml_bd (mon s)
    have l2 := ml_bd (mon e)
    by_cases h2 : c = "thirty"
    · rw [if_pos h2, if_pos h2, one_div, one_div]
      refine Rat.intCast_le_intCast.mpr ?_
      have k1 := mn_le (num s) 30
      rcases Int.lt_or_eq_of_le hm with z | z
      · rcases mn_or (num e) 30 with q | q <;> rw [q] <;> omega
      · rw [z] at d1 ⊢
        have := mn_mono 30 (show num s ≤ num e by omega)
        omega
    · rw [if_neg h2, if_neg h2, one_div, one_div]
      rcases Int.lt_or_eq_of_le hm with z | z
      · have e1 : Rat.divInt (num s - 1) (ml (mon s)) ≤ 1 := by
          rw [Rat.divInt_eq_div]
          have g := rat_div_mono (a := ((num s - 1 : Int) : Rat)) (b := ((ml (mon s) : Int) : Rat)) (Rat.intCast_le_intCast.mpr (by omega)) (rat_pos (show 0 < ml (mon s) by omega))
          have : ((ml (mon s) : Int) : Rat) ≠ 0 := fun q => by
            have : ml (mon s) = 0 := Rat.intCast_inj.mp q
            omega
          grind
        have e2 : 0 ≤ Rat.divInt (num e - 1) (ml (mon e)) := by
          rw [Rat.divInt_eq_div]
          have g := rat_div_mono (a := ((0 : Int) : Rat)) (b := ((num e - 1 : Int) : Rat)) (Rat.intCast_le_intCast.mpr (by omega)) (rat_pos (show 0 < ml (mon e) by omega))
          grind
        have e3 : ((mon s + 1 : Int) : Rat) + 1 ≤ ((mon e + 1 : Int) : Rat) := by
          have : ((mon s + 1 + 1 : Int) : Rat) ≤ ((mon e + 1 : Int) : Rat) := Rat.intCast_le_intCast.mpr (by omega)
          grind
        grind
      · rw [z] at d1 ⊢
        have g := rat_div_mono (a := ((num s - 1 : Int) : Rat)) (b := ((num e - 1 : Int) : Rat)) (Rat.intCast_le_intCast.mpr (by omega)) (rat_pos (show 0 < ml (mon e) by omega))
        rw [← Rat.divInt_eq_div, ← Rat.divInt_eq_div] at g
        grind
theorem prt_nn (c : Str) {s e : Int} (h : s ≤ e) : 0 ≤ (prt c s e).num := by
  refine Rat.num_nonneg.mpr ?_
  have h1 := numP_mono c h
  have g := rat_div_mono (a := 0) (b := numP c e - numP c s) (by grind) (rat_pos (dvs_pos c))
  unfold prt
  grind
theorem prt_plain {s m : Int} (h : num s = 1) : prt "plain" s (lat s m) = Rat.divInt m 12 := by
  have hn : num (lat s m) = 1 := by
    have := ml_bd (mon s + m)
    rw [num_lat, h]
    unfold mn
    rw [if_neg (by omega)]
  have e1 : numP "plain" s = ((mon s + 1 : Int) : Rat) := by
    unfold numP
    rw [if_neg (by decide +kernel), if_neg (by decide +kernel), h, one_div]
    simp
    grind
  have e2 : numP "plain" (lat s m) = ((mon s + m + 1 : Int) : Rat) := by
    unfold numP
    rw [if_neg (by decide +kernel), if_neg (by decide +kernel), hn, one_div, mon_lat]
    simp
    grind
  have e3 : dvs "plain" = 12 := by decide +kernel
  unfold prt
  rw [e1, e2, e3, Rat.divInt_eq_div]
  grind
end Cs
set_option maxHeartbeats 4000000
namespace Cs
open PySem PySem.Spec PyProof.Rows L2
/-! ### triples, pairs, sums, the lesser and the greater -/
abbrev I3 := Int × Int × Int
def tI3 (K : PySem.W.Frag) : Ty I3 := tTp K I3 (fun x => [tInt.is x.1, tInt.is x.2.1, tInt.is x.2.2])
def rSumT (K : PySem.W.Frag) : List V → Hp → VK → Prop := fun vs H Q => ∃ (a : Addr) (ns : List Int), vs = [V.ref a] ∧ SqT K H a (ns.map V.int) ∧ Q (.int ns.sum) H
theorem cr_sumT {X : Cx} (hc : X.calm = true) : CallR X (.builtin "sum") (rSumT X.K) := by
  intro pins s σ H vs us Q I r h
  obtain ⟨a, ns, rfl, hs, q⟩ := h
  obtain ⟨its, rv, hl, _⟩ := I.tuple hs
  rw [Vals.ref1 r]
  have hi : IntsAre its ns := Vals.ints rv
  have hl2 : s.heap.IsTuple a its.toArray := hl
  obtain ⟨xs, hx⟩ := hi.allInts.items
  have hn : numsOf its.toArray.toList = ns := by rw [show its.toArray.toList = its from rfl, hi.numsOf]
  rw [hx] at hl2 hn
  rw [nums_intItems] at hn
  refine PySem.W.ktm_sumG (I.ok.hd hc) hl2 fun h' tk t' hk => ?_
  rw [preSum_eq, List.take_of_length_le (by simp), hn]
  exact ⟨.int _, H, I.kept hk, ⟨_, rfl⟩, q⟩
section
variable {α β γ : Type} {W : Wd} {K : PySem.W.Frag} {ta tb tc : TE} {t : Ty α} {u : Ty β} {x : α} {y : β} {i j k : Int} {us : TS} {D : Ends} {m n l : Nat}
theorem ev_t3 (ha : Ev W ta tInt i) (hb : Ev W tb tInt j) (hc : Ev W tc tInt k) : Ev W (tTup (tCons ta (tCons tb (tCons tc tNil)))) (tI3 K) (i, j, k) :=
  ev_tup (K := K) (α := I3) (x := (i, j, k)) (fs' := fun x => [tInt.is x.1, tInt.is x.2.1, tInt.is x.2.2]) (ea_cons ha (ea_cons hb (ea_cons hc ea_nil))) rfl (by show 3 ≤ sizeLine; decide)
theorem go_un3 {z : I3} (h : Ev W ta (tI3 K) z) (k : Go (((W.at m (tInt.is z.1)).at n (tInt.is z.2.1)).at l (tInt.is z.2.2)) us D) : Go W (tSeq (tAsg ta (gTup K 3 (gCons (gName m) (gCons (gName n) (gCons (gName l) gNil))))) us) D := fun σ H o => h σ H o _ fun v H1 g1 ⟨p, vs, e, s, f⟩ => by
  match vs, f with
  | [a, b, c], ⟨h1, h2, h3, _⟩ =>
    obtain rfl : a = .int z.1 := h1
    obtain rfl : b = .int z.2.1 := h2
    obtain rfl : c = .int z.2.2 := h3
    exact ⟨p, _, e, sqT_mono hid_sub s, rfl, _, _, rfl, _, _, rfl, _, _, rfl, rfl, k _ _ (((g1.ok.put (i := m) (f := tInt.is z.1) rfl).put (i := n) (f := tInt.is z.2.1) rfl).put (i := l) (f := tInt.is z.2.2) rfl)⟩
theorem tgt_three {m n l : Nat} : Tgt (gTup K 3 (gCons (gName m) (gCons (gName n) (gCons (gName l) gNil)))) (tI3 K) (fun z => [(m, tInt.is z.1), (n, tInt.is z.2.1), (l, tInt.is z.2.2)]) := fun W σ H v z o ⟨p, vs, e, s, f⟩ Q q => by
  match vs, f with
  | [a, b, c], ⟨h1, h2, h3, _⟩ =>
    obtain rfl : a = .int z.1 := h1
    obtain rfl : b = .int z.2.1 := h2
    obtain rfl : c = .int z.2.2 := h3
    refine ⟨p, _, e, sqT_mono hid_sub s, rfl, _, _, rfl, _, _, rfl, _, _, rfl, rfl, q _ (((o.put (i := m) (f := tInt.is z.1) rfl).put (i := n) (f := tInt.is z.2.1) rfl).put (i := l) (f := tInt.is z.2.2) rfl) fun vs h => ?_⟩
    rw [wipe_set (h (l, tInt.is z.2.2) (by simp)), wipe_set (h (n, tInt.is z.2.1) (by simp)), wipe_set (h (m, tInt.is z.1) (List.mem_cons_self ..))]
/-- q, r = divmod(i, j) -/
theorem go_undm (ha : Ev W ta tInt i) (hb : Ev W tb tInt j) (c : CDiv i j) (k : Go ((W.at m (tInt.is (i / j))).at n (tInt.is (i % j))) us D) : Go W (tSeq (tAsg (tCB (fun xs H Q => ∃ i j, xs = [.int i, .int j] ∧ CDiv i j ∧ ∀ p, H p = none → Q (.ref p) (upd H p (.tup [.int (i / j), .int (i % j)]))) (tCons ta (tCons tb tNil))) (gTup K 2 (gCons (gName m) (gCons (gName n) gNil)))) us) D := fun σ H o =>
  ha σ H o _ fun v H1 g1 r1 => hb σ H1 g1.ok _ fun v2 H2 g2 r2 => by
    obtain rfl : v = .int i := r1
    obtain rfl : v2 = .int j := r2
    refine ⟨i, j, rfl, c, fun p np => ?_⟩
    have g3 := g2.ok.new (o := .tup [.int (i / j), .int (i % j)]) np
    exact ⟨p, [_, _], rfl, SqT.of upd_same, rfl, _, [_], rfl, _, [], rfl, rfl, k _ _ ((g3.ok.put (i := m) (f := tInt.is (i / j)) rfl).put (i := n) (f := tInt.is (i % j)) rfl)⟩
theorem ev_min (ha : Ev W ta tInt i) (hb : Ev W tb tInt j) : Ev W (tCB (fun xs H Q => ∃ i j, xs = [.int i, .int j] ∧ Q (.int (if j < i then j else i)) H) (tCons ta (tCons tb tNil))) tInt (if j < i then j else i) := fun σ H o Q q =>
  ha σ H o _ fun v H1 g1 r1 => hb σ H1 g1.ok _ fun v2 H2 g2 r2 => ⟨i, j, by rw [show v = .int i from r1, show v2 = .int j from r2], q _ H2 (g1.trans g2) rfl⟩
theorem ev_max (ha : Ev W ta tInt i) (hb : Ev W tb tInt j) : Ev W (tCB (fun xs H Q => ∃ i j, xs = [.int i, .int j] ∧ Q (.int (if j > i then j else i)) H) (tCons ta (tCons tb tNil))) tInt (if j > i then j else i) := fun σ H o Q q =>
  ha σ H o _ fun v H1 g1 r1 => hb σ H1 g1.ok _ fun v2 H2 g2 r2 => ⟨i, j, by rw [show v = .int i from r1, show v2 = .int j from r2], q _ H2 (g1.trans g2) rfl⟩
theorem all2_ints {H : Hp} : ∀ {vs : List V} {ns : List Int}, All2 (tInt.r H) vs ns → vs = ns.map V.int
  | [], [], _ => rfl
  | v :: vs, n :: ns, h => by
    rw [List.map_cons, ← all2_ints h.2, show v = .int n from h.1]
  | [], _ :: _, h => h.elim
  | _ :: _, [], h => h.elim
theorem ev_sumL {ns : List Int} (h : Ev W ta (tLs K tInt) ns) : Ev W (tCB (rSum K) (tCons ta tNil)) tInt ns.sum := fun σ H o Q q => h σ H o _ fun v H1 g1 ⟨p, vs, e, s, al⟩ =>
  ⟨p, ns, by rw [e], by rw [← all2_ints al]; exact SqL.of (hid_sub _ _ s), q _ H1 g1 rfl⟩
/-- sum of the first of a written tuple -/
theorem ev_sumTk {a : Addr} {ns : List Int} (hT : ∀ H, SqT K H a (ns.map V.int)) (hb : Ev W tb tInt (n : Int)) (hn : n < ns.length) : Ev W (tCB (rSumT K) (tCons (tSl (rSlT K) (tC (.ref a)) tNoPart (tPart tb)) tNil)) tInt (ns.take n).sum := fun σ H o Q q =>
  hb σ H o _ fun v H1 g1 r1 => by
    obtain rfl : v = .int n := r1
    have e : cutV (ns.map V.int) none (some (n : Int)) = (ns.take n).map V.int := by
      unfold cutV
      rw [HT.sIx_none, HT.sIx_nat, List.drop_zero, Nat.sub_zero, Nat.min_eq_left (by rw [List.length_map]; omega), List.map_take]
    refine ⟨n, rfl, a, _, rfl, hT H1, ?_, fun p np => ?_⟩
    · rintro ⟨_, z⟩
      rw [HT.sIx_nat, List.length_map, Nat.min_eq_left (by omega)] at z
      omega
    · rw [e]
      exact ⟨p, ns.take n, rfl, SqT.of upd_same, q _ _ (g1.trans (g1.ok.new np)) rfl⟩
/-- zip of two lists -/
theorem iv_zip {xs : List α} {ys : List β} (ha : Ev W ta (tLs K t) xs) (hb : Ev W tb (tLs K u) ys) : Iv W (iZip K (tCons ta (tCons tb tNil))) (tPr K t u) (xs.zip ys) := fun σ H o R q =>
  ha σ H o _ fun v H1 g1 r1 => hb σ H1 g1.ok _ fun v2 H2 g2 r2 => by
    obtain ⟨p1, vs1, rfl, s1, al1⟩ := (tLs K t).mono g2.up r1
    obtain ⟨p2, vs2, rfl, s2, al2⟩ := r2
    refine ⟨p1, p2, vs1, vs2, rfl, SqL.of (hid_sub _ _ s1), SqL.of (hid_sub _ _ s2), q _ _ ⟨fun H => (H p1 = some (.lst vs1) ∧ All2 (t.r H) vs1 xs) ∧ (H p2 = some (.lst vs2) ∧ All2 (u.r H) vs2 ys), fun e ⟨⟨h1, h2⟩, h3, h4⟩ => ⟨⟨e _ _ h1, All2.mono (fun _ _ => t.mono e) h2⟩, e _ _ h3, All2.mono (fun _ _ => u.mono e) h4⟩⟩ (g1.trans g2) ⟨⟨s1, al1⟩, s2, al2⟩ ⟨YPair (fun i => vs1[i]?) (fun i => vs2[i]?), ?_, fun i H v H' S hi z al ⟨T, a, b, e, nT, e2, ea, eb⟩ => ?_⟩⟩
    · rw [List.length_zip, ← al1.length, ← al2.length]
      exact (walk_zip rfl).mono (fun H ⟨S, z⟩ => ⟨SqL.of (hid_sub _ _ z.1.1), SqL.of (hid_sub _ _ z.2.1)⟩) fun i H v H' _ _ h => h
    · subst e e2
      obtain ⟨x, x1, x2⟩ := z.1.2.getV ea
      obtain ⟨y, y1, y2⟩ := z.2.2.getV eb
      have sm : Same H (upd H T (.tup [a, b])) := Same.new nT
      have nS : T ∉ S := fun m => al T m nT
      refine ⟨sm, (x, y), ?_, T, a, b, rfl, SqT.of (by rw [hid_of nS]; exact upd_same), t.mono (hid_same sm) x2, u.mono (hid_same sm) y2⟩
      rw [List.getElem?_zip_eq_some]
      exact ⟨x1, y1⟩
end
end Cs
set_option maxHeartbeats 4000000
namespace Cs
open PySem PySem.Spec PyProof.Rows L2
/-! ### sums of interests have one common divisor -/
def D1 : Int := 3421656000
def Dq : Int := 2052993600000
def Bq (n : Nat) (r : Rat) : Prop := ∃ z : Int, z.natAbs ≤ n * 2 ^ 64 ∧ r = Rat.divInt z Dq
theorem Bq.sz {n : Nat} {r : Rat} (h : Bq n r) (hn : n ≤ 2 ^ 20) : Sz 100 r := by
  obtain ⟨z, hz, rfl⟩ := h
  refine sz_div (by decide) ?_ (by decide)
  have h1 : n * 2 ^ 64 ≤ 2 ^ 20 * 2 ^ 64 := Nat.mul_le_mul_right _ hn
  have h2 : (2 : Nat) ^ 20 * 2 ^ 64 < 2 ^ 100 := by decide
  omega
theorem Bq.zero : Bq 0 0 := ⟨0, by decide, by rw [Rat.divInt_eq_div]; grind⟩
theorem Bq.add {n m : Nat} {r s : Rat} (h : Bq n r) (g : Bq m s) : Bq (n + m) (r + s) := by
  obtain ⟨z, hz, rfl⟩ := h
  obtain ⟨w, hw, rfl⟩ := g
  refine ⟨z + w, by rw [Nat.add_mul]; have := Int.natAbs_add_le z w; omega, ?_⟩
  rw [Rat.divInt_eq_div, Rat.divInt_eq_div, Rat.divInt_eq_div, Rat.intCast_add]
  grind
theorem Bq.mono {n m : Nat} {r : Rat} (h : Bq n r) (k : n ≤ m) : Bq m r := by
  obtain ⟨z, hz, e⟩ := h
  exact ⟨z, Nat.le_trans hz (Nat.mul_le_mul_right _ k), e⟩
theorem Bq.sum {n : Nat} : ∀ {rs : List Rat}, (∀ r ∈ rs, Bq n r) → Bq (n * rs.length) (rsum rs)
  | [], _ => Bq.zero
  | r :: rs, h => by
    rw [rsum_cons]
    have := (h r (List.mem_cons_self ..)).add (Bq.sum fun s m => h s (List.mem_cons_of_mem _ m))
    refine this.mono ?_
    rw [List.length_cons, Nat.mul_add]
    omega
def counts : List Str := ["fixed", "thirty", "plain"]
def Fq (r : Rat) : Prop := ∃ f : Int, f.natAbs ≤ 1200 ∧ r = Rat.divInt f 6
def Rq (r : Rat) : Prop := ∃ q : Int, q.natAbs ≤ 11 ∧ r = Rat.divInt q 100
theorem Fq.sz {r : Rat} (h : Fq r) : Sz 100 r := by
  obtain ⟨z, hz, rfl⟩ := h
  exact sz_div (by decide) (Nat.lt_of_le_of_lt hz (by decide)) (by decide)
theorem Rq.sz {r : Rat} (h : Rq r) : Sz 100 r := by
  obtain ⟨z, hz, rfl⟩ := h
  exact sz_div (by decide) (Nat.lt_of_le_of_lt hz (by decide)) (by decide)
theorem mon_small {d : Int} (h0 : 0 ≤ d) (h : d ≤ 10000) : 0 ≤ mon d ∧ mon d ≤ 10011 := by
  obtain ⟨y, i, n, hd⟩ := dateR_ex d
  have hi := hd.hi
  have := hd.e
  have := hd.rest
  have := hd.y0 h0
  rw [hd.mon]
  have h1 := (cum_bd i (by omega)).1
  have h2 := hd.n1
  omega
theorem num_small (d : Int) : 1 ≤ num d ∧ num d ≤ 31 := by
  have h1 := num_bd d
  have h2 := ml_bd (mon d)
  omega
theorem ml_div (M : Int) : ∃ m : Int, m * ml M = 26040 ∧ 840 ≤ m ∧ m ≤ 930 := by
  have key : ∀ i, i < 12 → ∃ m : Int, m * mlen i = 26040 ∧ 840 ≤ m ∧ m ≤ 930 := by
    intro i hi
    have : mlen i = 28 ∨ mlen i = 30 ∨ mlen i = 31 := (show ∀ i, i < 12 → mlen i = 28 ∨ mlen i = 30 ∨ mlen i = 31 by decide) i hi
    rcases this with e | e | e
    · exact ⟨930, by rw [e]; decide, by decide, by decide⟩
    · exact ⟨868, by rw [e]; decide, by decide, by decide⟩
    · exact ⟨840, by rw [e]; decide, by decide, by decide⟩
  exact key _ (ix12 M)
theorem numP_q (c : Str) {d : Int} (h0 : 0 ≤ d) (h : d ≤ 10000) : ∃ u : Int, u.natAbs ≤ 26040 * 400000 ∧ numP c d = Rat.divInt u 26040 := by
  have hm := mon_small h0 h
  have hn := num_small d
  unfold numP
  by_cases h1 : c = "fixed"
  · rw [if_pos h1]
    exact ⟨26040 * d, by omega, by rw [Rat.divInt_eq_div, Rat.divInt_eq_div, Rat.intCast_mul]; grind⟩
  · rw [if_neg h1]
    by_cases h2 : c = "thirty"
    · rw [if_pos h2]
      have k := mn_le (num d) 30
      have k0 : 1 ≤ mn (num d) 30 := by
        rcases mn_or (num d) 30 with e | e <;> rw [e] <;> omega
      exact ⟨26040 * (30 * mon d + 30 + mn (num d) 30), by omega, by rw [Rat.divInt_eq_div, Rat.divInt_eq_div, Rat.intCast_mul]; grind⟩
    · rw [if_neg h2]
      obtain ⟨m, m1, m2, m3⟩ := ml_div (mon d)
      have hl := ml_bd (mon d)
      refine ⟨26040 * (mon d + 1) + m * (num d - 1), ?_, ?_⟩
      · have : m * (num d - 1) ≤ 930 * 30 := Int.mul_le_mul m3 (by omega) (by omega) (by decide)
        have : 0 ≤ m * (num d - 1) := Int.mul_nonneg (by omega) (by omega)
        omega
      · have e0 : ((ml (mon d) : Int) : Rat) ≠ 0 := fun q => by
          have : ml (mon d) = 0 := Rat.intCast_inj.mp q
          omega
        have e1 : ((m : Int) : Rat) * ((ml (mon d) : Int) : Rat) = 26040 := by
          rw [← Rat.intCast_mul, m1]; rfl
        rw [Rat.divInt_eq_div, Rat.divInt_eq_div, Rat.divInt_eq_div, Rat.intCast_add (26040 * (mon d + 1)) (m * (num d - 1)), Rat.intCast_mul 26040 (mon d + 1), Rat.intCast_mul m (num d - 1)]
        have e2 : ((num d - 1 : Int) : Rat) / ((ml (mon d) : Int) : Rat) = ((m : Int) : Rat) * ((num d - 1 : Int) : Rat) / 26040 := by
          rw [← e1]
          grind
        rw [e2]
        grind
theorem prt_q (c : Str) {s e : Int} (h0 : 0 ≤ s) (h1 : s ≤ 10000) (h2 : 0 ≤ e) (h3 : e ≤ 10000) : ∃ p : Int, p.natAbs ≤ 2 ^ 49 ∧ prt c s e = Rat.divInt p D1 := by
  obtain ⟨u, hu, eu⟩ := numP_q c h0 h1
  obtain ⟨v, hv, ev⟩ := numP_q c h2 h3
  unfold prt
  rw [eu, ev]
  have key : ∀ g dv : Int, dv * g = 131400 → dvs c = dv → g.natAbs ≤ 10950 → 0 < dv → ∃ p : Int, p.natAbs ≤ 2 ^ 49 ∧ (Rat.divInt v 26040 - Rat.divInt u 26040) / ((dvs c : Int) : Rat) = Rat.divInt p D1 := fun g dv hg hd hb hp => by
    refine ⟨(v - u) * g, ?_, ?_⟩
    · rw [Int.natAbs_mul]
      have h4 : (v - u).natAbs ≤ 26040 * 800000 := by omega
      exact Nat.le_trans (Nat.mul_le_mul h4 hb) (by decide)
    · rw [hd, Rat.divInt_eq_div, Rat.divInt_eq_div, Rat.divInt_eq_div, Rat.intCast_mul, Rat.intCast_sub]
      have e0 : ((dv : Int) : Rat) ≠ 0 := fun q => by
        have : dv = 0 := Rat.intCast_inj.mp q
        omega
      have e1 : ((dv : Int) : Rat) * ((g : Int) : Rat) = 131400 := by rw [← Rat.intCast_mul, hg]; rfl
      have e2 : ((D1 : Int) : Rat) = 26040 * (((dv : Int) : Rat) * ((g : Int) : Rat)) := by rw [e1]; decide +kernel
      rw [e2]
      grind
  unfold dvs at *
  by_cases c1 : c = "fixed"
  · exact key 360 365 (by decide) (by rw [if_pos c1]) (by decide) (by decide)
  · by_cases c2 : c = "thirty"
    · exact key 365 360 (by decide) (by rw [if_neg c1, if_pos c2]) (by decide) (by decide)
    · exact key 10950 12 (by decide) (by rw [if_neg c1, if_neg c2]) (by decide) (by decide)
theorem prt_sz (c : Str) {s e : Int} (h0 : 0 ≤ s) (h1 : s ≤ 10000) (h2 : 0 ≤ e) (h3 : e ≤ 10000) : Sz 100 (prt c s e) := by
  obtain ⟨p, hp, e⟩ := prt_q c h0 h1 h2 h3
  rw [e]
  exact sz_div (by decide) (Nat.lt_of_le_of_lt hp (by decide)) (by decide)
theorem numP_sz (c : Str) {d : Int} (h0 : 0 ≤ d) (h1 : d ≤ 10000) : Sz 100 (numP c d) := by
  obtain ⟨p, hp, e⟩ := numP_q c h0 h1
  rw [e]
  exact sz_div (by decide) (Nat.lt_of_le_of_lt hp (by decide)) (by decide)
theorem int_q {r s : Rat} {c : Str} {a e : Int} (hr : Fq r) (hs : Rq s) (h0 : 0 ≤ a) (h1 : a ≤ 10000) (h2 : 0 ≤ e) (h3 : e ≤ 10000) : Bq 1 (r * s * prt c a e) := by
  obtain ⟨f, hf, rfl⟩ := hr
  obtain ⟨q, hq, rfl⟩ := hs
  obtain ⟨p, hp, e⟩ := prt_q c h0 h1 h2 h3
  refine ⟨f * q * p, ?_, ?_⟩
  · rw [Int.natAbs_mul, Int.natAbs_mul]
    exact Nat.le_trans (Nat.mul_le_mul (Nat.mul_le_mul hf hq) hp) (by decide)
  · rw [e, Rat.divInt_eq_div, Rat.divInt_eq_div, Rat.divInt_eq_div, Rat.divInt_eq_div, Rat.intCast_mul, Rat.intCast_mul]
    have e2 : ((Dq : Int) : Rat) = 6 * 100 * ((D1 : Int) : Rat) := by decide +kernel
    rw [e2]
    grind
theorem fq_mk {a b : Int} (h1 : 1 ≤ a) (h2 : a ≤ 200) (h3 : 1 ≤ b) (h4 : b ≤ 3) : Fq (Rat.divInt a b) := by
  have key : ∀ g : Int, b * g = 6 → g.natAbs ≤ 6 → Fq (Rat.divInt a b) := fun g hg hb => by
    refine ⟨a * g, ?_, ?_⟩
    · rw [Int.natAbs_mul]
      exact Nat.le_trans (Nat.mul_le_mul (show a.natAbs ≤ 200 by omega) hb) (by decide)
    · rw [Rat.divInt_eq_div, Rat.divInt_eq_div, Rat.intCast_mul]
      have e0 : ((b : Int) : Rat) ≠ 0 := fun q => by
        have : b = 0 := Rat.intCast_inj.mp q
        omega
      have e1 : ((b : Int) : Rat) * ((g : Int) : Rat) = 6 := by rw [← Rat.intCast_mul, hg]; rfl
      have e2 : ((6 : Int) : Rat) = ((b : Int) : Rat) * ((g : Int) : Rat) := by rw [e1]; rfl
      rw [e2]
      grind
  have : b = 1 ∨ b = 2 ∨ b = 3 := by omega
  rcases this with rfl | rfl | rfl
  · exact key 6 (by decide) (by decide)
  · exact key 3 (by decide) (by decide)
  · exact key 2 (by decide) (by decide)
end Cs
set_option maxHeartbeats 4000000
namespace Cs
open PySem PySem.Spec PyProof.Rows L2
/-! ### not in a written dict -/
def rNotInKd (K : PySem.W.Frag) (w : World) : R2 := fun x y H Q => ∃ (p : Addr) (z : Str), x = .str z ∧ y = .ref p ∧ (p == sysModules) = false ∧ (((∃ v, KDct K w p z v) ∧ Q (.bl false) H) ∨ ((∃ es n, K.lookup p = some ⟨.type "dict", none, .dict es n, #[]⟩ ∧ PySem.W.KeysLit w.params es.toList ∧ PySem.W.nsIn K p z = some none) ∧ Q (.bl true) H))
theorem op_notInKd {X : Cx} : OpR X (compareOp .NotIn) (rNotInKd X.K X.w) := by
  intro pins s σ H x y v u Q I rx ry h
  obtain ⟨p, z, rfl, rfl, hs, h⟩ := h
  obtain rfl : u = Value.ref p := ry
  obtain ⟨t, rfl⟩ := rx
  rcases h with ⟨⟨v, es, n, u0, hl, hk, e, ru⟩, q⟩ | ⟨⟨es, n, hl, hk, e⟩, q⟩
  · have hm := PySem.W.mapOf_K (prog := X.prog) (w := X.w) I.kIn hl hk
    refine wpAny_notIn_of (strKind_is X.prog X.w z t) hs hm ?_
    rw [PySem.W.find_K hl e]
    exact ⟨.bl false, H, I.tok _, rfl, q⟩
  · have hm := PySem.W.mapOf_K (prog := X.prog) (w := X.w) I.kIn hl hk
    refine wpAny_notIn_of (strKind_is X.prog X.w z t) hs hm ?_
    rw [PySem.W.find_K hl e]
    exact ⟨.bl true, H, I.tok _, rfl, q⟩
section
variable {W : Wd} {K : PySem.W.Frag} {w : World} {ta : TE} {z : Str} {p : Addr} {i : Int}
theorem et_notKd (ha : Ev W ta tSt z) (hs : (p == sysModules) = false) (hk : KDct K w p z (.int i)) : Et W (tTest (tOp (rNotInKd K w) ta (tC (.ref p)))) false := fun σ H o Q q =>
  ha σ H o _ fun v H1 g1 r1 => ⟨p, z, r1, rfl, hs, .inl ⟨⟨_, hk⟩, _, rfl, q H1 g1⟩⟩
theorem ev_kdI (ha : Ev W ta tSt z) (hk : KDct K w p z (.int i)) : Ev W (tOp (rIxD K w) (tC (.ref p)) ta) tInt i := fun σ H o Q q =>
  ha σ H o _ fun v H1 g1 r1 => ⟨p, z, _, rfl, r1, hk, q _ H1 g1 rfl⟩
end
end Cs
set_option maxHeartbeats 4000000
namespace Cs
open PySem PySem.Spec PyProof.Rows L2
/-! ### fresh lists that are changed later -/
def tN2 (G : Hp) {α : Type} (t : Ty α) : Ty (List α) := ⟨fun H v xs => ∃ p vs, v = .ref p ∧ H p = some (.lst vs) ∧ All2 (t.r (hid [p] H)) vs xs ∧ G p = none, fun e ⟨p, vs, h, g, h1, h2⟩ => ⟨p, vs, h, e _ _ g, All2.mono (fun _ _ => t.mono (hid_same e)) h1, h2⟩⟩
theorem hid_cons {S : List Addr} {p : Addr} {H : Hp} : hid (p :: S) H = hid [p] (hid S H) := by
  funext a
  unfold hid
  by_cases h1 : a = p
  · rw [if_pos (by rw [h1]; exact List.mem_cons_self ..), if_pos (by rw [h1]; exact List.mem_cons_self ..)]
  · rw [if_neg (show ¬ a ∈ [p] from fun m => h1 (List.mem_singleton.mp m))]
    by_cases h2 : a ∈ S
    · rw [if_pos (List.mem_cons_of_mem _ h2), if_pos h2]
    · rw [if_neg (fun m => (List.mem_cons.mp m).elim h1 h2), if_neg h2]
section
variable {α β γ : Type} {W : Wd} {K : PySem.W.Frag} {ta tb td ty : TE} {t : Ty α} {u : Ty β} {x : α} {y : β} {ar : TA} {xs : List α} {n : Nat} {us : TS} {D : Ends} {E : XK} {i : Int} {z : Str}
theorem ev_lstN2 (h : El W ar t xs) (hl : xs.length ≤ sizeLine := by decide) : Ev W (tLst ar) (tN2 W.H0 t) xs := fun σ H o Q q =>
  h σ H o _ fun vs H1 g1 r1 => ⟨by rw [r1.length]; exact hl, fun p np => q _ _ (g1.trans (g1.ok.new np)) ⟨p, vs, rfl, (by rw [hid_of (g1.ok.off np)]; exact upd_same), All2.mono (fun v x r => t.mono (fun b ob hb => by
    have nb : b ≠ p := fun e => by rw [e] at hb; rw [hid_sub _ _ hb] at np; cases np
    rw [hid_of (fun m => nb (List.mem_singleton.mp m))]
    exact (g1.ok.new np).up _ _ hb) r) r1, h0_of g1.ok np⟩⟩
theorem go_callN2 {A : γ → List SF} {pre : γ → Prop} {post : γ → List α → Prop} {z : γ} (h : Ea W ar (A z)) (hp : pre z) (k : ∀ p xs, post z xs → p ∉ W.S → Go ⟨W.H0, W.M, p :: W.S, cell p (cLs t xs) :: W.L, W.F, W.G.set n (some (tRf.is p))⟩ us D) :
    Go W (tSeq (tAsg (tCall (fun vs H Q E => spN (fun _ => []) A (tN2 H t) pre post vs H Q E) [] E ar) (gName n)) us) D := fun σ H o => h σ H o _ fun vs H1 g1 r1 => by
  refine ⟨W.S, z, g1.ok.al, by show ([] : List Addr).Nodup; exact List.nodup_nil, fun a m => (nomatch m), fun r m => (nomatch m), by rw [List.append_nil]; exact r1, hp, fun v xs H2 py b al c rr => ?_⟩
  obtain ⟨p, ws, rfl, hp2, al2, fr⟩ := rr
  have sm0 : Same H1 H2 := b.same
  have g2 := g1.ok.go sm0
  have nS : p ∉ W.S := fun m => by unfold hid at hp2; rw [if_pos m] at hp2; cases hp2
  have hp3 : H2 p = some (.lst ws) := hid_sub _ _ hp2
  have o2 : Ok W σ H2 := g2.ok
  refine k p xs py nS _ _ (Ok.put (i := n) (f := tRf.is p) (W := ⟨W.H0, W.M, p :: W.S, cell p (cLs t xs) :: W.L, W.F, W.G⟩) ?_ rfl)
  have sm : Same (hid W.S H1) (hid (p :: W.S) H2) := fun b ob hb => by
    have nb : b ≠ p := fun e => by rw [e] at hb; rw [hid_sub _ _ hb] at fr; cases fr
    have := g2.up _ _ hb
    rw [hid_cons, hid_of (fun m => nb (List.mem_singleton.mp m))]
    exact this
  refine ⟨?_, fun a m => ?_, fun r m => ?_, fun a m => List.mem_cons_of_mem _ (o2.ms a m), fun a m => ?_, o2.bt, o2.len, fun f m => f.mono sm (g1.ok.facts f m), fun j f q => ?_⟩
  · show (p :: fps W.L).Nodup
    exact List.nodup_cons.mpr ⟨fun m => nS (o2.own p m).1, o2.nod⟩
  · rcases List.mem_cons.mp (show a ∈ p :: fps W.L from m) with e | e
    · rw [e]
      exact ⟨List.mem_cons_self .., .inr (h0_of g1.ok fr)⟩
    · exact ⟨List.mem_cons_of_mem _ (o2.own a e).1, (o2.own a e).2⟩
  · rcases List.mem_cons.mp m with e | e
    · rw [e]
      exact ⟨_, hp3, ws, rfl, by rw [hid_cons]; exact al2⟩
    · exact r.loc (fun a q => eq_of_same sm0 (g1.ok.al a (g1.ok.own a (mem_fps e q)).1)) (r.mono sm (g1.ok.at_ r e))
  · rcases List.mem_cons.mp m with e | e
    · rw [e, hp3]; simp
    · exact o2.al a e
  · obtain ⟨w, h1, h2⟩ := g1.ok.slots j f q
    exact ⟨w, h1, f.mono sm h2⟩
/-! ### dicts by numbers -/
def MpAt (t : Ty α) (F : Hp) (ov : Option V) (ox : Option α) : Prop := match ox with
  | none => ov = none
  | some x => ∃ u, ov = some u ∧ t.r F u x
theorem MpAt.mono {F F' : Hp} {ov : Option V} {ox : Option α} (e : Same F F') (h : MpAt t F ov ox) : MpAt t F' ov ox := by
  cases ox with
  | none => exact h
  | some x =>
    obtain ⟨u, h1, h2⟩ := h
    exact ⟨u, h1, t.mono e h2⟩
abbrev Mp (α : Type) := Int → Option α
def tMp (t : Ty α) : Ty (Mp α) := ⟨fun H v m => ∃ p kvs, v = .ref p ∧ H p = some (.dK kvs) ∧ ∀ i : Int, MpAt t H (valV kvs (Sum.inl i)) (m i), fun e ⟨p, kvs, h, g, q⟩ => ⟨p, kvs, h, e _ _ g, fun i => (q i).mono e⟩⟩
def cMpI (t : Ty α) (m : Mp α) (n : Nat) : CF := ⟨fun F o => ∃ kvs, o = .dK kvs ∧ kvs.length ≤ n ∧ ∀ i : Int, MpAt t F (valV kvs (Sum.inl i)) (m i), fun e ⟨kvs, h, l, q⟩ => ⟨kvs, h, l, fun i => (q i).mono e⟩⟩
theorem ev_mpGet {m : Mp α} (hd : Ev W td (tMp t) m) (hi : Ev W ty tInt i) (e : m i = some x) : Ev W (tDGet td ty) t x := fun σ H o Q q =>
  hd σ H o _ fun v H1 g1 r1 => hi σ H1 g1.ok _ fun w H2 g2 r2 => by
    obtain ⟨p, kvs, rfl, hp, hq⟩ := (tMp t).mono g2.up r1
    have a := hq i
    rw [e] at a
    obtain ⟨u, h1, h2⟩ := a
    obtain rfl : w = .int i := r2
    exact ⟨p, u, rfl, .inl ⟨kvs, Sum.inl i, .inl (hid_sub _ _ hp), rfl, h1.symm⟩, q u H2 (g1.trans g2) h2⟩
theorem et_mpNot {m : Mp α} (hd : Ev W td (tMp t) m) (hi : Ev W ty tInt i) : Et W (tB (tDNotIn ty td)) (m i).isNone := fun σ H o Q q =>
  hi σ H o _ fun w H1 g1 r1 => hd σ H1 g1.ok _ fun v H2 g2 r2 => by
    obtain ⟨p, kvs, rfl, hp, hq⟩ := r2
    have a := hq i
    obtain rfl : w = .int i := r1
    refine ⟨p, valV kvs (Sum.inl i), rfl, .inl ⟨kvs, Sum.inl i, .inl (hid_sub _ _ hp), rfl, rfl⟩, _, rfl, ?_⟩
    have e : (!(valV kvs (Sum.inl i)).isSome) = (m i).isNone := by
      cases c : m i with
      | none =>
        rw [c] at a
        rw [show valV kvs (Sum.inl i) = none from a]; rfl
      | some x =>
        rw [c] at a
        obtain ⟨u, h1, _⟩ := a
        rw [h1]; rfl
    rw [e]
    exact q H2 (g1.trans g2)
theorem go_newMI (t : Ty α) (k : ∀ p, p ∉ W.S → Go ⟨W.H0, W.M, p :: W.S, cell p (cMpI t (fun _ => none) 0) :: W.L, W.F, W.G.set n (some (tRf.is p))⟩ us D) : Go W (tSeq (tAsg tDNewK (gName n)) us) D := fun σ H o =>
  fun p np => k p (o.off np) _ _ (Ok.put (i := n) (f := tRf.is p) (o.cell (ψ := cMpI t (fun _ => none) 0) np ⟨[], rfl, Nat.le_refl _, fun i => rfl⟩).1 rfl)
theorem go_putI {s l : Nat} {p : Addr} {m : Mp α} {R : List RS} {P : α → Prop} (hs : W.G[s]? = some (some (tRf.is p))) (hL : W.L.Perm (cell p (cMpI t m l) :: R)) (ha : Ev W ty tInt i) (hb : Evx W tb t P) (hl : l < sizeLine) (k : ∀ x, P x → ∀ σ H, Ok { W with L := cell p (cMpI t (fun j => if j = i then some x else m j) (l + 1)) :: R } σ H → D.nx σ H) : Go W (sDPut (tVar s) ty tb) D := fun σ H o =>
  hb σ H o _ fun v x H1 px g1 r1 => by
    obtain ⟨w, h1, rfl⟩ := g1.ok.slots s _ hs
    refine ⟨.ref p, h1, ha σ H1 g1.ok _ fun y H2 g2 ry => ?_⟩
    obtain ⟨ob, hob, kvs, rfl, hlen, ht⟩ := g2.ok.at_ (cell p (cMpI t m l)) (hL.mem_iff.mpr (List.mem_cons_self ..))
    refine ⟨p, upd H2 p (.dK (putK kvs (Sum.inl i) v)), rfl, ?_, k x px _ _ ((g2.ok.perm hL).write (ψ := cMpI t (fun j => if j = i then some x else m j) (l + 1)) (o := .dK (putK kvs (Sum.inl i) v)) rfl ⟨_, rfl, ?_, fun j => ?_⟩).ok⟩
    · rw [show y = kV (Sum.inl i) from ry]
      exact DPut.k hob (by omega)
    · unfold putK
      split
      · rw [List.length_map]; omega
      · rw [List.length_append]; show _ + 1 ≤ _; omega
    · show MpAt t (hid W.S H2) (valV (putK kvs (Sum.inl i) v) (Sum.inl j)) (if j = i then some x else m j)
      rw [valV_put]
      by_cases c : j = i
      · rw [if_pos (by rw [c]), if_pos c]
        exact ⟨v, rfl, t.mono g2.up r1⟩
      · rw [if_neg (fun z => c (Sum.inl.inj z)), if_neg c]
        exact ht j
theorem go_frzI {l : Nat} {p : Addr} {m : Mp α} {S : List Addr} {L : List RS} {H0 : Hp} {M : List Addr} {F : List FF} {G : List (Option SF)} (hp : G[n]? = some (some (tRf.is p))) (hM : ∀ a ∈ M, a ∈ S) (hn : p ∉ S) (hS : ∀ a, a ∈ fps L → a ∈ S)
    (k : Go ⟨H0, M, S, L, F, G.set n (some ((tMp t).is m))⟩ us D) : Go ⟨H0, M, p :: S, cell p (cMpI t m l) :: L, F, G⟩ us D := fun σ H o => by
  obtain ⟨v, h1, h2⟩ := o.slots n _ hp
  obtain rfl : v = .ref p := h2
  obtain ⟨ob, hob, kvs, rfl, _, al⟩ := o.at_ _ (List.mem_cons_self ..)
  have o2 := Ok.drop (N := [p]) o hS hM
  have up : Same (hid (p :: S) H) (hid S H) := hid_less fun a h => List.mem_cons_of_mem _ h
  have o3 := Ok.put (i := n) (v := .ref p) (f := (tMp t).is m) o2 ⟨p, kvs, rfl, (by rw [hid_of hn]; exact hob), fun i => (al i).mono up⟩
  rw [set_self h1] at o3
  exact k σ H o3
/-! ### a text or None -/
theorem et_eqO {x : Option Str} (h : Ev W ta (tOpt tSt) x) : Et W (tTest (tOp rEq ta (tC (.str z)))) (decide (x = some z)) := fun σ H o Q q => h σ H o _ fun v H1 g1 r1 => by
  cases x with
  | none =>
    obtain rfl : v = .non := r1
    exact ⟨rfl, _, rfl, q H1 g1⟩
  | some y =>
    obtain ⟨r1, _⟩ := r1
    obtain rfl : v = .str y := r1
    refine ⟨rfl, _, rfl, ?_⟩
    have e : decide (V.str y = V.str z) = decide (some y = some z) := decide_eq_decide.mpr ⟨fun h => by rw [V.str.inj h], fun h => by rw [Option.some.inj h]⟩
    rw [e]
    exact q H1 g1
theorem et_notN {x : Option α} (h : Ev W ta (tOpt t) x) : Et W (tTest (tOp (fun x y H Q => y = .non ∧ Q (.bl (!decide (x = .non))) H) ta (tC .non))) x.isSome := fun σ H o Q q => h σ H o _ fun v H1 g1 r1 => by
  cases x with
  | none =>
    obtain rfl : v = .non := r1
    exact ⟨rfl, _, rfl, q H1 g1⟩
  | some y =>
    obtain ⟨r1, ne⟩ := r1
    refine ⟨rfl, _, rfl, ?_⟩
    rw [decide_eq_false ne]
    exact q H1 g1
end
end Cs
set_option maxHeartbeats 4000000
namespace Cs
open PySem PySem.Spec PyProof.Rows L2
/-! ### own defs called with keywords -/
def CalK (P : Program) (w : World) (K : PySem.W.Frag) (mg : Str → Option Value) (base : Heap) (k : Nat) (x : Str) (ps : List Str) (n : Nat) (ks : List Str) (sp : Sp) : Prop :=
  ∃ (f : Addr) (fd : FuncData), FnOk P w K mg base CX0 k f fd ps sp ∧ mg x = some (.ref f) ∧ PySem.W.keepIn K (.ref f) = true ∧ KBn K fd ps n ks (fun us ws => us ++ ws) (fun vs zs => vs ++ zs)
theorem CalK.mono {P : Program} {w : World} {K : PySem.W.Frag} {mg : Str → Option Value} {base : Heap} {j k n : Nat} {x : Str} {ps ks : List Str} {sp : Sp} (c : CalK P w K mg base j x ps n ks sp) (h : j ≤ k) : CalK P w K mg base k x ps n ks sp := by
  obtain ⟨f, fd, F, g⟩ := c
  exact ⟨f, fd, F.mono h, g⟩
section
variable {X : Cx} {k n : Nat} {x : Str} {ps ks : List Str} {sp : Sp} {p pos : Pos} {e : Expr} {es : List Expr} {kws : List Keyword} {t tk : TA}
theorem pe_calK (c : CalK X.prog X.w X.K X.mg X.base k x ps n ks sp) (hr : Room k X.A) (hg : Gl X x) (ha : PA X (e :: es) t) (hkw : PK X kws tk) (hall : (backToKw pos (keywordEach kws X.env)).all (·.1.isSome) = true := by rfl) (hks : (backToKw pos (keywordEach kws X.env)).filterMap (·.1) = ks := by rfl)
    (hdb : (x == ("__debug__" : Str)) = false := by decide) (he : starEach (e :: es) X.env = (false, eval e X.env) :: starEach es X.env := by rfl)
    (hpl : ((backTo pos (starEach (e :: es) X.env)).any (·.1) || (backToKw pos (keywordEach kws X.env)).any (·.1.isNone)) = false := by rfl) :
    PE X (.Call (.Name x p) (e :: es) kws pos) (tCallN n ks.length sp (fun vs zs => vs ++ zs) E0 t tk) := by
  obtain ⟨_, _, F, g, kp, b⟩ := c
  exact pe_callN F hr hg g kp b pass0 ha hkw hall hks hdb he hpl
end
section
variable {β γ : Type} {W : Wd} {ar ak : TA} {fs gs : List SF} {E : XK}
theorem ev_callK {n m : Nat} {A : γ → List SF} {w : Ty β} {pre : γ → Prop} {f : γ → β} {z : γ} (h : Ea W ar fs) (hk : Ea W ak gs) (hn : fs.length = n) (hm : gs.length = m) (e : A z = fs ++ gs) (hp : pre z) : Ev W (tCallN n m (spP A w pre f) (fun vs zs => vs ++ zs) E ar ak) w (f z) := fun σ H o Q q => h σ H o _ fun vs H1 g1 r1 => hk σ H1 g1.ok _ fun zs H2 g2 r2 => by
  refine ⟨by rw [r1.length, hn], by rw [r2.length, hm], W.S, z, g2.ok.al, by show ([] : List Addr).Nodup; exact List.nodup_nil, fun a m => (nomatch m), fun r m => (nomatch m), by rw [e]; exact Fits.append (r1.mono g2.up) r2, hp, fun v y H3 py b al c r => ?_⟩
  obtain rfl : y = f z := py
  exact q v H3 ((g1.trans g2).trans (g2.ok.go b.same)) r
end
end Cs
set_option maxHeartbeats 4000000
namespace Cs
open PySem PySem.Spec PyProof.Rows L2
def topS (i : Nat) : Stmt := PySem.Challenge.pw_consol_k49_whole_interest_to_the_day.main.body.getD i (.Pass ⟨0, 0, 0, 0⟩)
local macro_rules | `(tactic| walk_at "rd") => `(tactic| (first
  | (refine ⟨_, rfl, ?_⟩)
  | (refine ⟨_, _, rfl, rfl, ?_⟩)
  | (refine .inl ⟨_, rfl, ?_⟩)
  | (refine .inr ⟨_, rfl, ?_⟩)
  | (refine ⟨_, _, _, _, rfl, rfl, SqL.of upd_same, rfl, ?_⟩)
  | (refine ⟨_, _, _, _, rfl, rfl, upd_same, rfl, ?_⟩)
  | (refine ⟨_, ?xs, _, ?v, rfl, rfl, ?h, ?x, ?_⟩; (case h => first | exact SqL.of (by assumption) | exact SqT.of (by assumption) | assumption); (case x => first | rfl | exact atI_nat (j := 0) rfl | exact atI_nat (j := 1) rfl))))
local macro_rules | `(tactic| walk_at "isi") => `(tactic| (first
  | (refine ⟨_, _, _, _, _, rfl, .ty _, .base (.int _), kit_ty kit_it, ?_⟩)
  | (refine ⟨_, _, _, _, _, rfl, .ty _, .base (.int _), kit_ty kit_ib, ?_⟩)
  | (refine ⟨_, _, _, _, _, rfl, .ty _, .base (.int _), kit_ty kit_ii, ?_⟩)
  | (refine ⟨_, _, _, _, _, rfl, .ty _, .base (.bl _), kit_ty kit_bt, ?_⟩)
  | (refine ⟨_, _, _, _, _, rfl, .ty _, .base (.bl _), kit_ty kit_bb, ?_⟩)
  | (refine ⟨_, _, _, _, _, rfl, .ty _, .base (.bl _), kit_ty kit_bi, ?_⟩)))
local macro_rules | `(tactic| walk_at "ev") => `(tactic| (first
  | exact ev_var rfl
  | exact ev_int
  | exact ev_str
  | exact ev_bl
  | exact ev_non
  | (refine ev_add ?_ ?_ <;> walk_at "ev")
  | (refine ev_sub ?_ ?_ <;> walk_at "ev")
  | (refine ev_mul ?_ ?_ ?_ <;> (try walk_at "ev"))
  | (refine ev_neg ?_ <;> walk_at "ev")
  | (refine ev_num ?_ <;> walk_at "ev")
  | (refine ev_den ?_ <;> walk_at "ev")
  | (refine ev_cmp ?_ ?_ <;> walk_at "ev")
  | (refine ev_eqI ?_ ?_ <;> walk_at "ev")
  | (refine ev_eqS ?_ ?_ <;> walk_at "ev")
  | (refine ev_neI ?_ ?_ <;> walk_at "ev")
  | (refine ev_neS ?_ ?_ <;> walk_at "ev")
  | (refine ev_inS ?_ ?_ <;> walk_at "ev")
  | (refine ev_niS ?_ ?_ <;> walk_at "ev")
  | (refine ev_len ?_ <;> walk_at "ev")
  | (refine ev_list ?_ <;> walk_at "ev")
  | (refine ev_listRev ?_ <;> walk_at "ev")
  | (refine ev_int1 ?_ <;> walk_at "ev")))
local macro_rules | `(tactic| walk_at "ea") => `(tactic| (first
  | exact ea_nil
  | (refine ea_cons ?_ ?_ <;> (first | walk_at "ev" | walk_at "ea" | skip))))
local macro_rules | `(tactic| walk_at "sb") => `(tactic| (first | exact True.intro | (refine And.intro rfl ?_; walk_at "sb")))
local macro_rules | `(tactic| walk_at "subt") => `(tactic| repeat (first | exact List.nil_sublist _ | apply List.Sublist.cons₂ | apply List.Sublist.cons))
section
variable {P : Program} {w : World} {K : PySem.W.Frag} {mg : Str → Option Value} {base : Heap}
abbrev sDeck : Stmt := topS 51
theorem scDeck : FnScope ["script"] ["script"] (defScope sDeck) := ⟨rfl, rfl, rfl, by decide +kernel, rfl, by decide +kernel, by decide +kernel⟩
theorem ok_deck {f : Addr} {fd : FuncData} {k : Nat} (F : Fun K "_law_deck" "_law_deck" sDeck f fd) (z_list : mg "list" = none) : FnOk P w K mg base CX0 (k + 1) f fd ["script"] (spDeckN K) := by
  refine F.ok scDeck (fun vs H Q E h => ?_) (fun cdv A outer s H vs Q E hr h => ?_)
  · obtain ⟨a, ns, rfl, _⟩ := h
    rfl
  · obtain ⟨a, ns, rfl, hS, q⟩ := h
    refine ⟨_, (pss_one (ps_ret (pe_lst (pa_cons (pe_callTy call_list_of (by rfl) z_list (by decide +kernel) (pa_cons (pv 0) pa_nil)) (pa_cons pe_int (pa_cons pe_int (pa_cons pe_int pa_nil))))))), ?_⟩
    refine ⟨_, rfl, _, _, rfl, .inl hS, fun l hl => ?_⟩
    refine ⟨by show 4 ≤ sizeLine; decide, fun d hd => ?_⟩
    have hdl : d ≠ l := fun e => by rw [e, upd_same] at hd; cases hd
    have hd0 : H d = none := by rw [upd_ne hdl] at hd; exact hd
    refine q d l _ ((Same.new hl).trans (Same.new hd)) hd0 hl ⟨0, 0, 7, upd_same, .inl (.inl ?_), hdl.symm, Int.le_refl _⟩
    rw [upd_ne hdl.symm, upd_same]
abbrev sDraw : Stmt := topS 52
theorem scDraw : FnScope ["deck", "most", "value", "cell"] ["deck", "most"] (defScope sDraw) := ⟨rfl, rfl, rfl, by decide +kernel, rfl, by decide +kernel, by decide +kernel⟩
theorem ok_draw {f : Addr} {fd : FuncData} {k : Nat} (F : Fun K "_law_draw" "_law_draw" sDraw f fd) (z_len : mg "len" = none) (z_int : mg "int" = none) : FnOk P w K mg base CX0 (k + 1) f fd ["deck", "most"] (spDrawA K) := by
  refine F.ok scDraw (fun vs H Q E h => ?_) (fun cdv A outer s H vs Q E hr h => ?_)
  · obtain ⟨a, m, l, ns, rfl, _⟩ := h
    rfl
  · obtain ⟨d, m, l, ns, rfl, m0, mb, ⟨b, c, e, hd, hl, ne, b0⟩, q⟩ := h
    refine ⟨_, (pss_cons (ps_if (pt_cmpR op_ge (pe_ix ix_list (pv 0) pe_int (fun _ _ => rfl)) (pv 1) (nomark _)) (pss_cons (ps_set (i := 2) scDraw.nd rfl (Or.inl rfl) (pe_op op_mod (pe_callTy call_int1 (by rfl) z_int (by decide +kernel) (pa_cons (pe_ix ix_list (pv 0) pe_int (fun _ _ => rfl)) pa_nil)) (pv 1)))
      (pss_cons (ps_asg (pe_op op_fdivA (pe_ix ix_list (pv 0) pe_int (fun _ _ => rfl)) (pv 1)) (pg_sub (pv 0) pe_int set_list))
      (pss_one (ps_ret (pv 2))))) pss_nil)
      (pss_cons (ps_set (i := 3) scDraw.nd rfl (Or.inl rfl) pe_int)
      (pss_cons (ps_if (pt_cmpR op_lt (pe_ix ix_list (pv 0) pe_int (fun _ _ => rfl)) (pe_callB call_len_seq (by rfl) z_len PySem.boot_len (pa_cons (pe_ix ix_list (pv 0) pe_int (fun _ _ => rfl)) pa_nil)) (nomark _)) (pss_one (ps_set (i := 3) scDraw.nd rfl (Or.inl rfl) (pe_ix ix_list (pe_ix ix_list (pv 0) pe_int (fun _ _ => rfl)) (pe_ix ix_list (pv 0) pe_int (fun _ _ => rfl)) (fun _ _ => rfl)))) pss_nil)
      (pss_cons (ps_asg (pe_op op_add (pe_ix ix_list (pv 0) pe_int (fun _ _ => rfl)) pe_int) (pg_sub (pv 0) pe_int set_list))
      (pss_cons (ps_asg pe_int (pg_sub (pv 0) pe_int set_list))
      (pss_cons (ps_if (pt_cmpR op_ge (pv 3) (pe_op op_pow pe_int pe_int) (nomark _)) (pss_cons (ps_asg (pe_op op_fdivA (pv 3) (pv 1)) (pg_sub (pv 0) pe_int set_list))
      (pss_one (ps_ret (pe_op op_mod (pe_callTy call_int1 (by rfl) z_int (by decide +kernel) (pa_cons (pv 3) pa_nil)) (pv 1))))) pss_nil)
      (pss_cons (ps_asg (pe_op op_mod (pe_callTy call_int1 (by rfl) z_int (by decide +kernel) (pa_cons (pe_op op_add (pe_op op_add (pe_op op_mulA (pe_ix ix_list (pv 0) pe_int (fun _ _ => rfl)) pe_int) (pe_op op_mulA (pv 3) pe_int)) (pe_op op_mulA (pe_ix ix_list (pv 0) pe_int (fun _ _ => rfl)) pe_int)) pa_nil)) pe_int) (pg_sub (pv 0) pe_int set_list))
      (pss_cons (ps_asg (pe_op op_mod (pe_callTy call_int1 (by rfl) z_int (by decide +kernel) (pa_cons (pe_op op_add (pe_op op_mulA (pe_ix ix_list (pv 0) pe_int (fun _ _ => rfl)) pe_int) pe_int) pa_nil)) pe_int) (pg_sub (pv 0) pe_int set_list))
      (pss_one (ps_ret (pe_op op_mod (pe_callTy call_int1 (by rfl) z_int (by decide +kernel) (pa_cons (pe_op op_fdivA (pe_ix ix_list (pv 0) pe_int (fun _ _ => rfl)) pe_int) pa_nil)) (pv 1)))))))))))), ?_⟩
    have mb9 : m.natAbs < 2 ^ 9000 := Nat.lt_trans mb (Nat.pow_lt_pow_right (by decide) (by decide))
    repeat walk_at "rd"
    refine ite2 (fun h1 => ?_) (fun h1 => ?_)
    · repeat walk_at "rd"
      refine ⟨m0, ?_⟩
      repeat walk_at "rd"
      refine ⟨⟨by omega, mb9⟩, ?_⟩
      repeat walk_at "rd"
      exact q _ _ (Int.emod_nonneg _ (by omega)) (Int.emod_lt_of_pos _ m0) But.upd (deckA_of hl ne But.upd upd_same b0)
    · repeat walk_at "rd"
      refine ⟨_, _, rfl, .inl hl, ?_⟩
      repeat walk_at "rd"
      refine ite2 (fun h2 => ?_) (fun h2 => ?_)
      · repeat walk_at "rd"
        obtain ⟨z, hz⟩ := cell_at (ns := ns) b0 (by have := of_decide_eq_true h2; rw [List.length_map] at this; exact this)
        refine ⟨_, _, _, _, rfl, rfl, hl, hz, ?_⟩
        repeat walk_at "rd"
        refine ⟨⟨by decide, by decide, by decide⟩, ?_⟩
        repeat walk_at "rd"
        refine ite2 (fun h3 => ?_) (fun h3 => ?_)
        · repeat walk_at "rd"
          refine ⟨⟨by omega, mb9⟩, ?_⟩
          repeat walk_at "rd"
          refine ⟨m0, ?_⟩
          exact q _ _ (Int.emod_nonneg _ (by omega)) (Int.emod_lt_of_pos _ m0) (((But.upd.trans But.upd)).trans But.upd) (deckA_of hl ne (((But.upd.trans But.upd)).trans But.upd) upd_same (show (0 : Int) ≤ b + 1 by omega))
        · repeat walk_at "rd"
          refine ⟨mulR (by decide), ?_⟩
          repeat walk_at "rd"
          refine ⟨mulR (by decide), ?_⟩
          repeat walk_at "rd"
          refine ⟨mulR (by decide), ?_⟩
          repeat walk_at "rd"
          refine ⟨(show (0 : Int) < 2147483647 by decide), ?_⟩
          repeat walk_at "rd"
          refine ⟨mulR (by decide), ?_⟩
          repeat walk_at "rd"
          refine ⟨(show (0 : Int) < 2147483647 by decide), ?_⟩
          repeat walk_at "rd"
          refine ⟨⟨by decide, by decide⟩, ?_⟩
          repeat walk_at "rd"
          refine ⟨m0, ?_⟩
          exact q _ _ (Int.emod_nonneg _ (by omega)) (Int.emod_lt_of_pos _ m0) (((But.upd.trans But.upd).trans But.upd).trans But.upd) (deckA_of hl ne (((But.upd.trans But.upd).trans But.upd).trans But.upd) upd_same (show (0 : Int) ≤ b + 1 by omega))
      · repeat walk_at "rd"
        refine ⟨⟨by decide, by decide, by decide⟩, ?_⟩
        repeat walk_at "rd"
        repeat walk_at "rd"
        refine ⟨mulR (by decide), ?_⟩
        repeat walk_at "rd"
        refine ⟨mulR (by decide), ?_⟩
        repeat walk_at "rd"
        refine ⟨mulR (by decide), ?_⟩
        repeat walk_at "rd"
        refine ⟨(show (0 : Int) < 2147483647 by decide), ?_⟩
        repeat walk_at "rd"
        refine ⟨mulR (by decide), ?_⟩
        repeat walk_at "rd"
        refine ⟨(show (0 : Int) < 2147483647 by decide), ?_⟩
        repeat walk_at "rd"
        refine ⟨⟨by decide, by decide⟩, ?_⟩
        repeat walk_at "rd"
        refine ⟨m0, ?_⟩
        exact q _ _ (Int.emod_nonneg _ (by omega)) (Int.emod_lt_of_pos _ m0) (((But.upd.trans But.upd).trans But.upd).trans But.upd) (deckA_of hl ne (((But.upd.trans But.upd).trans But.upd).trans But.upd) upd_same (show (0 : Int) ≤ b + 1 by omega))
abbrev sGcd : Stmt := topS 53
theorem scGcd : FnScope ["a", "b", "k", "rest"] ["a", "b"] (defScope sGcd) := ⟨rfl, rfl, rfl, by decide +kernel, rfl, by decide +kernel, by decide +kernel⟩
theorem ok_gcd {f : Addr} {fd : FuncData} {k : Nat} (F : Fun K "_law_gcd" "_law_gcd" sGcd f fd) (z_range : mg "range" = none) (z_int : mg "int" = none) : FnOk P w K mg base CX0 (k + 1) f fd ["a", "b"] spGcd := by
  refine F.ok scGcd (fun vs H Q E h => ?_) (fun cdv A outer s H vs Q E hr h => ?_)
  · obtain ⟨a, b, rfl, _⟩ := h
    rfl
  · obtain ⟨a, b, rfl, ha, hb, q⟩ := h
    refine ⟨_, (pss_cons (ps_for PassesOwn.never rfl (pi_range1 rfl z_range (pa_cons pe_int pa_nil)) (pg_name (i := 2) scGcd.nd rfl (Or.inl rfl)) (pss_cons (ps_if (pt_cmpR op_eq (pv 1) pe_int (nomark _)) (pss_one (ps_ret (pv 0))) pss_nil)
      (pss_cons (ps_set (i := 3) scGcd.nd rfl (Or.inl rfl) (pe_op op_mod (pe_callTy call_int1 (by rfl) z_int (by decide +kernel) (pa_cons (pv 0) pa_nil)) (pv 1)))
      (pss_cons (ps_set (i := 0) scGcd.nd rfl (Or.inl rfl) (pv 1))
      (pss_one (ps_set (i := 1) scGcd.nd rfl (Or.inl rfl) (pv 3)))))))
      (pss_one (ps_ret (pv 0)))), ?_⟩
    have hab : a * b < 2 ^ 4800 := Nat.lt_of_lt_of_eq (Nat.mul_lt_mul'' ha hb) (Nat.pow_add 2 2400 2400).symm
    refine ⟨5000, rfl, by decide, by decide, for_range (n := 5000) (fun i σ H' => ∃ (x y : Nat) (k2 k3 : Option V), σ = [some (.int x), some (.int y), k2, k3] ∧ H' = H ∧ ((i ≤ 4801 ∧ EG (Nat.gcd a b) 4800 i x y) ∨ (y = 0 ∧ x = Nat.gcd a b))) ?_ ?_ ?_⟩
    · exact ⟨a, b, none, none, rfl, rfl, .inl ⟨by omega, EG.start hab⟩⟩
    · intro i σ H1 hi hP
      obtain ⟨x, y, k2, k3, rfl, rfl, hP⟩ := hP
      refine ⟨_, rfl, rfl, _, rfl, ite2 (fun h0 => ?_) (fun h0 => ?_)⟩
      · have hy : y = 0 := by have := V.int.inj (of_decide_eq_true h0); omega
        refine ⟨_, rfl, ?_⟩
        have hx : x = Nat.gcd a b := by
          rcases hP with ⟨_, hE⟩ | ⟨_, hx⟩
          · subst hy; exact hE.zero
          · exact hx
        subst hx
        exact q
      · have hy : 0 < y := by
          rcases Nat.eq_zero_or_pos y with z | z
          · subst z; exact absurd (decide_eq_true rfl) h0
          · exact z
        rcases hP with ⟨hi2, hE⟩ | ⟨z, _⟩
        · have hi3 : i ≤ 4800 := by
            rcases Nat.lt_or_ge i 4801 with z | z
            · omega
            · have e : i = 4801 := by omega
              subst e
              have := hE.last
              omega
          repeat walk_at "rd"
          refine ⟨(show (0 : Int) < (y : Int) by omega), ?_⟩
          repeat walk_at "rd"
          exact ⟨y, x % y, some (.int (0 + (i : Int))), some (.int ((x : Int) % (y : Int))), rfl, rfl, .inl ⟨by omega, hE.step hy hi3⟩⟩
        · omega
    · intro σ H1 hP
      obtain ⟨x, y, k2, k3, rfl, rfl, hP⟩ := hP
      refine ⟨_, rfl, ?_⟩
      rcases hP with ⟨z, _⟩ | ⟨_, hx⟩
      · omega
      · subst hx
        exact q
abbrev sRatio : Stmt := topS 54
theorem scRatio : FnScope ["p", "q", "divisor"] ["p", "q"] (defScope sRatio) := ⟨rfl, rfl, rfl, by decide +kernel, rfl, by decide +kernel, by decide +kernel⟩
theorem ok_ratio {f : Addr} {fd : FuncData} {k : Nat} (F : Fun K "_law_ratio" "_law_ratio" sRatio f fd) (c_law_gcd : Cal P w K mg base k "_law_gcd" ["a", "b"] spGcd) (z_abs : mg "abs" = none) : FnOk P w K mg base CX0 (k + 1) f fd ["p", "q"] spRatio := by
  refine F.ok scRatio (fun vs H Q E h => ?_) (fun cdv A outer s H vs Q E hr h => ?_)
  · obtain ⟨a, b, rfl, _⟩ := h
    rfl
  · obtain ⟨p, q, rfl, q0, hp, hq, out⟩ := h
    refine ⟨_, (pss_cons (ps_set (i := 2) scRatio.nd rfl (Or.inl rfl) (pe_cal c_law_gcd hr (by rfl) (pa_cons (pe_callB call_abs (by rfl) z_abs (by decide +kernel) (pa_cons (pv 0) pa_nil)) (pa_cons (pe_callB call_abs (by rfl) z_abs (by decide +kernel) (pa_cons (pv 1) pa_nil)) pa_nil))))
      (pss_cons (ps_if (pt_cmpR op_lt (pv 1) pe_int (nomark _)) (pss_one (ps_set (i := 2) scRatio.nd rfl (Or.inl rfl) (pe_un un_neg (pv 2)))) pss_nil)
      (pss_one (ps_ret (pe_tup (pa_cons (pe_op op_fdivA (pv 0) (pv 2)) (pa_cons (pe_op op_fdivA (pv 1) (pv 2)) pa_nil))))))), ?_⟩
    refine ⟨_, rfl, _, rfl, _, rfl, _, rfl, p.natAbs, q.natAbs, ?_, hp, hq, ?_⟩
    · have : ∀ z : Int, (if z < 0 then -z else z) = (z.natAbs : Int) := fun z => by split <;> omega
      rw [this, this]
      rfl
    have hg := gcd_pos p q q0
    have hgb : ((Nat.gcd p.natAbs q.natAbs : Nat) : Int).natAbs < 2 ^ 9000 := by
      rw [Int.natAbs_natCast]
      exact Nat.lt_of_le_of_lt (Nat.gcd_le_right _ (by omega)) (Nat.lt_trans hq (Nat.pow_lt_pow_right (by decide) (by decide)))
    have en := frac_num p q q0
    have ed := frac_den p q q0
    repeat walk_at "rd"
    refine ite2 (fun h1 => ?_) (fun h1 => ?_)
    · have h1' : q < 0 := of_decide_eq_true h1
      rw [if_pos h1'] at en ed
      repeat walk_at "rd"
      refine ⟨⟨by omega, by rw [Int.natAbs_neg]; exact hgb⟩, ?_⟩
      repeat walk_at "rd"
      refine ⟨⟨by omega, by rw [Int.natAbs_neg]; exact hgb⟩, by show 2 ≤ sizeLine; decide, fun t ht => ?_⟩
      refine out t _ (Same.new ht) ht (upd_same.trans ?_)
      show some (HO.tup [.int (p.fdiv _), .int (q.fdiv _)]) = some (HO.tup [.int _, .int _])
      rw [en, ed]
    · have h1' : ¬ q < 0 := fun z => h1 (decide_eq_true z)
      rw [if_neg h1'] at en ed
      repeat walk_at "rd"
      refine ⟨⟨by omega, hgb⟩, ?_⟩
      repeat walk_at "rd"
      refine ⟨⟨by omega, hgb⟩, by show 2 ≤ sizeLine; decide, fun t ht => ?_⟩
      refine out t _ (Same.new ht) ht (upd_same.trans ?_)
      show some (HO.tup [.int (p.fdiv _), .int (q.fdiv _)]) = some (HO.tup [.int _, .int _])
      rw [en, ed]
abbrev sFraction : Stmt := topS 29
theorem scFraction : FnScope ["p", "q", "divisor"] ["p", "q"] (defScope sFraction) := ⟨rfl, rfl, rfl, by decide +kernel, rfl, by decide +kernel, by decide +kernel⟩
theorem ok_fraction {f : Addr} {fd : FuncData} {k : Nat} (F : FunD K "fraction" "fraction" (defArgs sFraction) (defBody sFraction) (defScope sFraction) [.int 1] [] f fd) (m_gcd : mg "gcd" = some (.builtin "math.gcd")) : FnOk P w K mg base CX0 (k + 1) f fd ["p", "q"] spFrac := by
  refine F.ok scFraction (fun vs H Q E h => ?_) (fun cdv A outer s H vs Q E hr h => ?_)
  · obtain ⟨a, b, rfl, _⟩ := h
    rfl
  · obtain ⟨p, q, rfl, q0, hq, out⟩ := h
    refine ⟨_, (pss_cons (ps_if (pt_cmpR op_eq (pv 1) pe_int (nomark _)) (pss_one ps_never) pss_nil)
      (pss_cons (ps_set (i := 2) scFraction.nd rfl (Or.inl rfl) (pe_callBfun cr_gcd (by rfl) m_gcd (pa_cons (pv 0) (pa_cons (pv 1) pa_nil))))
      (pss_cons (ps_if (pt_cmpR op_lt (pv 1) pe_int (nomark _)) (pss_one (ps_set (i := 2) scFraction.nd rfl (Or.inl rfl) (pe_un un_neg (pv 2)))) pss_nil)
      (pss_one (ps_ret (pe_tup (pa_cons (pe_op op_fdivA (pv 0) (pv 2)) (pa_cons (pe_op op_fdivA (pv 1) (pv 2)) pa_nil)))))))), ?_⟩
    have hg := gcd_pos p q q0
    have hgb : ((Nat.gcd p.natAbs q.natAbs : Nat) : Int).natAbs < 2 ^ 9000 := by
      rw [Int.natAbs_natCast]
      exact Nat.lt_of_le_of_lt (Nat.gcd_le_right _ (by omega)) hq
    have en := frac_num p q q0
    have ed := frac_den p q q0
    refine ⟨_, rfl, rfl, _, rfl, ite2 (fun h0 => absurd (V.int.inj (of_decide_eq_true h0)) q0) (fun h0 => ?_)⟩
    refine ⟨_, rfl, _, rfl, _, _, rfl, ?_⟩
    repeat walk_at "rd"
    refine ite2 (fun h1 => ?_) (fun h1 => ?_)
    · have h1' : q < 0 := of_decide_eq_true h1
      rw [if_pos h1'] at en ed
      repeat walk_at "rd"
      refine ⟨⟨by omega, by rw [Int.natAbs_neg]; exact hgb⟩, ?_⟩
      repeat walk_at "rd"
      refine ⟨⟨by omega, by rw [Int.natAbs_neg]; exact hgb⟩, by show 2 ≤ sizeLine; decide, fun t ht => ?_⟩
      refine out t _ (Same.new ht) ht (upd_same.trans ?_)
      show some (HO.tup [.int (p.fdiv _), .int (q.fdiv _)]) = some (HO.tup [.int _, .int _])
      rw [en, ed]
    · have h1' : ¬ q < 0 := fun z => h1 (decide_eq_true z)
      rw [if_neg h1'] at en ed
      repeat walk_at "rd"
      refine ⟨⟨by omega, hgb⟩, ?_⟩
      repeat walk_at "rd"
      refine ⟨⟨by omega, hgb⟩, by show 2 ≤ sizeLine; decide, fun t ht => ?_⟩
      refine out t _ (Same.new ht) ht (upd_same.trans ?_)
      show some (HO.tup [.int (p.fdiv _), .int (q.fdiv _)]) = some (HO.tup [.int _, .int _])
      rw [en, ed]
end
end Cs
set_option maxHeartbeats 4000000
namespace Cs
open PySem PySem.Spec PyProof.Rows L2
local macro_rules | `(tactic| walk_at "rd") => `(tactic| (first
  | (refine ⟨_, rfl, ?_⟩)
  | (refine ⟨_, _, rfl, rfl, ?_⟩)
  | (refine .inl ⟨_, rfl, ?_⟩)
  | (refine .inr ⟨_, rfl, ?_⟩)
  | (refine ⟨_, _, _, _, rfl, rfl, SqL.of upd_same, rfl, ?_⟩)
  | (refine ⟨_, _, _, _, rfl, rfl, upd_same, rfl, ?_⟩)
  | (refine ⟨_, ?xs, _, ?v, rfl, rfl, ?h, ?x, ?_⟩; (case h => first | exact SqL.of (by assumption) | exact SqT.of (by assumption) | assumption); (case x => first | rfl | exact atI_nat (j := 0) rfl | exact atI_nat (j := 1) rfl))))
local macro_rules | `(tactic| walk_at "isi") => `(tactic| (first
  | (refine ⟨_, _, _, _, _, rfl, .ty _, .base (.int _), kit_ty kit_it, ?_⟩)
  | (refine ⟨_, _, _, _, _, rfl, .ty _, .base (.int _), kit_ty kit_ib, ?_⟩)
  | (refine ⟨_, _, _, _, _, rfl, .ty _, .base (.int _), kit_ty kit_ii, ?_⟩)
  | (refine ⟨_, _, _, _, _, rfl, .ty _, .base (.bl _), kit_ty kit_bt, ?_⟩)
  | (refine ⟨_, _, _, _, _, rfl, .ty _, .base (.bl _), kit_ty kit_bb, ?_⟩)
  | (refine ⟨_, _, _, _, _, rfl, .ty _, .base (.bl _), kit_ty kit_bi, ?_⟩)))
local macro_rules | `(tactic| walk_at "ev") => `(tactic| (first
  | exact ev_var rfl
  | exact ev_int
  | exact ev_str
  | exact ev_bl
  | exact ev_non
  | (refine ev_add ?_ ?_ <;> walk_at "ev")
  | (refine ev_sub ?_ ?_ <;> walk_at "ev")
  | (refine ev_mul ?_ ?_ ?_ <;> (try walk_at "ev"))
  | (refine ev_neg ?_ <;> walk_at "ev")
  | (refine ev_num ?_ <;> walk_at "ev")
  | (refine ev_den ?_ <;> walk_at "ev")
  | (refine ev_cmp ?_ ?_ <;> walk_at "ev")
  | (refine ev_eqI ?_ ?_ <;> walk_at "ev")
  | (refine ev_eqS ?_ ?_ <;> walk_at "ev")
  | (refine ev_neI ?_ ?_ <;> walk_at "ev")
  | (refine ev_neS ?_ ?_ <;> walk_at "ev")
  | (refine ev_inS ?_ ?_ <;> walk_at "ev")
  | (refine ev_niS ?_ ?_ <;> walk_at "ev")
  | (refine ev_len ?_ <;> walk_at "ev")
  | (refine ev_list ?_ <;> walk_at "ev")
  | (refine ev_listRev ?_ <;> walk_at "ev")
  | (refine ev_int1 ?_ <;> walk_at "ev")))
local macro_rules | `(tactic| walk_at "ea") => `(tactic| (first
  | exact ea_nil
  | (refine ea_cons ?_ ?_ <;> (first | walk_at "ev" | walk_at "ea" | skip))))
local macro_rules | `(tactic| walk_at "sb") => `(tactic| (first | exact True.intro | (refine And.intro rfl ?_; walk_at "sb")))
local macro_rules | `(tactic| walk_at "subt") => `(tactic| repeat (first | exact List.nil_sublist _ | apply List.Sublist.cons₂ | apply List.Sublist.cons))
section
variable {P : Program} {w : World} {K : PySem.W.Frag} {mg : Str → Option Value} {base : Heap}
/-! ### dates, in the typed layer -/
def fourW : List Str := ["none", "next", "before", "modified"]
def wdsV : List V := [.str "none", .str "next", .str "before", .str "modified"]
theorem four_inV : ∀ x ∈ fourW, inV (.str x) wdsV = true := by decide +kernel
abbrev spCk : Sp := spP (fun d : Int => [tInt.is d]) tNn (fun d => 0 ≤ d) (fun _ => ())
abbrev spML : Sp := spP (fun i : Nat => [tInt.is ((i : Int) + 1)]) tInt (fun i => i < 12) mlen
noncomputable def dtO (d : Int) : I3 := (mon d / 12, mon d % 12 + 1, num d)
theorem dateR_is {d y n : Int} {i : Nat} (h : DateR d y i n) : dtO d = (y, (i : Int) + 1, n) := by
  unfold dtO
  have hi := h.hi
  rw [h.num, h.mon]
  have e1 : (12 * y + (i : Int)) / 12 = y := by omega
  have e2 : (12 * y + (i : Int)) % 12 = (i : Int) := by omega
  rw [e1, e2]
theorem dateR_of (d : Int) : DateR d (mon d / 12) (mon d % 12).toNat (num d) := by
  obtain ⟨y, i, n, h⟩ := dateR_ex d
  have hi := h.hi
  rw [h.num, h.mon]
  have e1 : (12 * y + (i : Int)) / 12 = y := by omega
  have e2 : (12 * y + (i : Int)) % 12 = (i : Int) := by omega
  rw [e1, e2, Int.toNat_natCast]
  exact h
abbrev spDateT (K : PySem.W.Frag) : Sp := spP (fun d : Int => [tInt.is d]) (tI3 K) (fun d => 0 ≤ d) dtO
abbrev spDayT : Sp := spP (fun x : Int × Nat × Int => [tInt.is x.1, tInt.is ((x.2.1 : Int) + 1), tInt.is x.2.2]) tInt (fun x => x.2.1 < 12 ∧ 0 ≤ x.1 ∧ 1 ≤ x.2.2 ∧ x.2.2 ≤ mlen x.2.1) (fun x => 365 * x.1 + cum x.2.1 + x.2.2 - 1)
abbrev spWk : Sp := spP (fun d : Int => [tInt.is d]) tInt (fun d => 0 ≤ d) (fun d => d % 7)
abbrev spBs : Sp := spP (fun d : Int => [tInt.is d]) tBl (fun d => 0 ≤ d) (fun d => decide (d % 7 ≤ 4))
abbrev spCkW : Sp := spP (fun z : Str => [tSt.is z]) tNn (fun z => z ∈ fourW) (fun _ => ())
abbrev spMoT (K : PySem.W.Frag) : Sp := spP (fun d : Int => [tInt.is d]) (tPr K tInt tInt) (fun d => 0 ≤ d) (fun d => (mon d / 12, mon d % 12 + 1))
abbrev spAdjT : Sp := spP (fun x : Int × Str => [tInt.is x.1, tSt.is x.2]) tInt (fun x => 0 ≤ x.1 ∧ x.2 ∈ fourW) (fun x => adj x.1 x.2)
abbrev spAddT : Sp := spP (fun x : Int × Int => [tInt.is x.1, tInt.is x.2]) tInt (fun x => 0 ≤ x.1 ∧ 0 ≤ x.2) (fun x => lat x.1 x.2)
abbrev sCheck : Stmt := topS 24
theorem scCheck : FnScope ["day"] ["day"] (defScope sCheck) := ⟨rfl, rfl, rfl, by decide +kernel, rfl, by decide +kernel, by decide +kernel⟩
theorem ok_check {f : Addr} {fd : FuncData} {k : Nat} (F : Fun K "_check_day" "_check_day" sCheck f fd) : FnOk P w K mg base CX0 (k + 1) f fd ["day"] spCk := by
  refine ok_P F scCheck (fun _ => rfl) fun cdv A outer s H0 S d Q E hr hp out => ⟨_, (pss_one (ps_if (pt_cmpR op_lt (pv 0) pe_int (nomark _)) (pss_one ps_never) pss_nil)), ?_⟩
  have hp : 0 ≤ d := hp
  refine go_if (et_of (ev_cmp (ev_var rfl) ev_int)) (fun h => absurd (of_decide_eq_true h) (by omega)) (fun _ => go_next fun σ H o => ?_)
  exact out _ () H rfl o.bt (fun a m => nomatch m) (fun r m => nomatch m) rfl
abbrev sMLen : Stmt := topS 19
theorem scMLen : FnScope ["month"] ["month"] (defScope sMLen) := ⟨rfl, rfl, rfl, by decide +kernel, rfl, by decide +kernel, by decide +kernel⟩
theorem ok_mlen {f zL : Addr} {fd : FuncData} {k : Nat} {t12 : Tok} (F : Fun K "month_length" "month_length" sMLen f fd) (m_MONTHS_OF_YEAR : mg "MONTHS_OF_YEAR" = some (.int 12 t12)) (m_LENGTHS : mg "LENGTHS" = some (.ref zL)) (hL : ∀ H, SqT K H zL (lens.map V.int)) : FnOk P w K mg base CX0 (k + 1) f fd ["month"] spML := by
  refine ok_P F scMLen (fun _ => rfl) fun cdv A outer s H0 S i Q E hr hp out => ⟨_, (pss_cons (ps_if (PW.pt (pw_or (pt_cmpR op_lt (pv 0) pe_int (nomark _)) (pw_or1 (pt_cmpR op_gt (pv 0) (pe_glob (v := .int 12) (by rfl) m_MONTHS_OF_YEAR ⟨_, rfl⟩) (nomark _))))) (pss_one ps_never) pss_nil)
      (pss_one (ps_ret (pe_ix ix_tup (pe_glob (v := .ref zL) (by rfl) m_LENGTHS rfl) (pe_op op_sub (pv 0) pe_int) (fun _ _ => rfl))))), ?_⟩
  have hp : i < 12 := hp
  refine go_ifr (et_or (et_of (ev_cmp (ev_var rfl) ev_int)) fun _ => et_of (ev_cmp (ev_var rfl) ev_int)) (fun h => ?_) (fun _ => ?_)
  · rw [Bool.or_eq_true, decide_eq_true_eq, decide_eq_true_eq] at h
    omega
  · refine go_end (y := mlen i) (fun σ H o Q q => (ev_sub (ev_var rfl) ev_int) σ H o _ fun v H1 g1 r1 => ?_) out
    obtain rfl : v = .int ((i : Int) + 1 - 1) := r1
    refine ⟨zL, _, _, _, rfl, rfl, hL H1, ?_, q _ H1 g1 rfl⟩
    rw [show ((i : Int) + 1 - 1) = (i : Int) by omega]
    exact atI_nat (lens_at i hp)
abbrev sDateOf : Stmt := topS 15
theorem scDateOf : FnScope ["day", "year", "left", "month"] ["day"] (defScope sDateOf) := ⟨rfl, rfl, rfl, by decide +kernel, rfl, by decide +kernel, by decide +kernel⟩
theorem ok_dateof {f : Addr} {fd : FuncData} {k : Nat} {t365 : Tok} (F : Fun K "date_of" "date_of" sDateOf f fd) (c_check_day : Cal P w K mg base k "_check_day" ["day"] spCk) (c_month_length : Cal P w K mg base k "month_length" ["month"] spML) (m_DAYS_OF_YEAR : mg "DAYS_OF_YEAR" = some (.int 365 t365)) (z_divmod : mg "divmod" = none) : FnOk P w K mg base CX0 (k + 1) f fd ["day"] (spDateT K) := by
  refine ok_P F scDateOf (fun _ => rfl) fun cdv A outer s H0 S d Q E hr hp out => ⟨_, (pss_cons (ps_expr (pe_cal c_check_day hr (by rfl) (pa_cons (pv 0) pa_nil)))
      (pss_cons (ps_asg (pe_callB call_divmod (by rfl) z_divmod (by decide +kernel) (pa_cons (pv 0) (pa_cons (pe_glob (v := .int 365) (by rfl) m_DAYS_OF_YEAR ⟨_, rfl⟩) pa_nil))) (pg_tup rfl (pgs_cons (pg_name (i := 1) scDateOf.nd rfl (Or.inl rfl)) (pgs_cons (pg_name (i := 2) scDateOf.nd rfl (Or.inl rfl)) pgs_nil))))
      (pss_cons (ps_set (i := 3) scDateOf.nd rfl (Or.inl rfl) pe_int)
      (pss_cons (ps_while PassesOwn.never (pt_cmpR op_ge (pv 2) (pe_cal c_month_length hr (by rfl) (pa_cons (pv 3) pa_nil)) (nomark _)) (pss_cons (ps_set (i := 2) scDateOf.nd rfl (Or.inl rfl) (pe_op op_sub (pv 2) (pe_cal c_month_length hr (by rfl) (pa_cons (pv 3) pa_nil))))
      (pss_one (ps_set (i := 3) scDateOf.nd rfl (Or.inl rfl) (pe_op op_add (pv 3) pe_int)))))
      (pss_one (ps_ret (pe_tup (pa_cons (pv 1) (pa_cons (pv 3) (pa_cons (pe_op op_add (pv 2) pe_int) pa_nil)))))))))), ?_⟩
  have hp : 0 ≤ d := hp
  have r0 : 0 ≤ d % 365 := Int.emod_nonneg _ (by decide)
  have r1 : d % 365 < 365 := Int.emod_lt_of_pos _ (by decide)
  refine go_drop (ev_call (z := d) (ea_cons (ev_var rfl) ea_nil) hp) ?_
  refine go_undm (ev_var rfl) ev_int ⟨by decide, by decide⟩ ?_
  refine go_set (x := ((0 : Nat) : Int) + 1) ev_int ?_
  refine go_seq (go_while (ι := Nat) (fun i => ⟨H0, [], S, [], [], [some (tInt.is d), some (tInt.is (d / 365)), some (tInt.is (d % 365 - cum i)), some (tInt.is ((i : Int) + 1))]⟩) (fun i => i < 12 ∧ cum i ≤ d % 365) (fun i => 12 - i) 0 ⟨by decide, r0⟩ (fun σ H o => ?_) (fun i hi => ⟨decide (mlen i ≤ d % 365 - cum i), ?_, fun hb => ?_, fun hb σ H o => ?_⟩))
  · have e : d % 365 = d % 365 - cum 0 := by rw [cum_zero, Int.sub_zero]
    have o : Ok ⟨H0, [], S, [], [], [some (tInt.is d), some (tInt.is (d / 365)), some (tInt.is (d % 365)), some (tInt.is (((0 : Nat) : Int) + 1))]⟩ σ H := o
    rw [e] at o
    exact o
  · exact et_of (ev_cmp (ev_var rfl) (ev_call (z := i) (ea_cons (ev_var rfl) ea_nil) hi.1))
  · have h := of_decide_eq_true hb
    have hs := cum_succ i hi.1
    have hi2 : i + 1 < 12 := by
      rcases Nat.lt_or_ge (i + 1) 12 with z | z
      · exact z
      · have e : i + 1 = 12 := by have := hi.1; omega
        rw [e, cum_all] at hs
        omega
    refine go_set (x := d % 365 - cum (i + 1)) (ev_is (ev_sub (ev_var rfl) (ev_call (z := i) (ea_cons (ev_var rfl) ea_nil) hi.1)) (by omega)) ?_
    refine go_set1 (x := ((i + 1 : Nat) : Int) + 1) (ev_is (ev_add (ev_var rfl) ev_int) (by omega)) fun σ H o => ⟨i + 1, ⟨hi2, by omega⟩, by omega, o⟩
  · have h := of_decide_eq_false hb
    have hs := cum_succ i hi.1
    dsimp only at o ⊢
    refine go_at o ?_
    have D : DateR d (d / 365) i (d % 365 - cum i + 1) := ⟨hi.1, by have := hi.2; omega, by omega, by omega⟩
    exact go_end (y := (d / 365, (i : Int) + 1, d % 365 - cum i + 1)) (ev_t3 (ev_var rfl) (ev_var rfl) (ev_add (ev_var rfl) ev_int)) out (dateR_is D).symm
abbrev sDayOf : Stmt := topS 16
theorem scDayOf : FnScope ["year", "month", "number", "length"] ["year", "month", "number"] (defScope sDayOf) := ⟨rfl, rfl, rfl, by decide +kernel, rfl, by decide +kernel, by decide +kernel⟩
theorem ok_dayof {f zL : Addr} {fd : FuncData} {k : Nat} {t365 : Tok} (F : Fun K "day_of" "day_of" sDayOf f fd) (c_month_length : Cal P w K mg base k "month_length" ["month"] spML) (m_DAYS_OF_YEAR : mg "DAYS_OF_YEAR" = some (.int 365 t365)) (m_LENGTHS : mg "LENGTHS" = some (.ref zL)) (hL : ∀ H, SqT K H zL (lens.map V.int)) (z_sum : mg "sum" = none) : FnOk P w K mg base CX0 (k + 1) f fd ["year", "month", "number"] spDayT := by
  refine ok_P F scDayOf (fun _ => rfl) fun cdv A outer s H0 S x Q E hr hp out => ⟨_, (pss_cons (ps_set (i := 3) scDayOf.nd rfl (Or.inl rfl) (pe_cal c_month_length hr (by rfl) (pa_cons (pv 1) pa_nil)))
      (pss_cons (ps_if (PW.pt (pw_or (pt_cmpR op_lt (pv 0) pe_int (nomark _)) (pw_or (pt_cmpR op_lt (pv 2) pe_int (nomark _)) (pw_or1 (pt_cmpR op_gt (pv 2) (pv 3) (nomark _)))))) (pss_one ps_never) pss_nil)
      (pss_one (ps_ret (pe_op op_sub (pe_op op_add (pe_op op_add (pe_op op_mulA (pe_glob (v := .int 365) (by rfl) m_DAYS_OF_YEAR ⟨_, rfl⟩) (pv 0)) (pe_callB (cr_sumT rfl) (by rfl) z_sum (by decide +kernel) (pa_cons (pe_slice sl_tup (pe_glob (v := .ref zL) (by rfl) m_LENGTHS rfl) po_none (po_some (pe_op op_sub (pv 1) pe_int))) pa_nil))) (pv 2)) pe_int))))), ?_⟩
  obtain ⟨y, i, n⟩ := x
  obtain ⟨hi, y0, n1, n2⟩ := hp
  have hi : i < 12 := hi
  have y0 : 0 ≤ y := y0
  have n1 : 1 ≤ n := n1
  have n2 : n ≤ mlen i := n2
  refine go_set (x := mlen i) (ev_call (z := i) (ea_cons (ev_var rfl) ea_nil) hi) ?_
  refine go_ifr (et_or (et_of (ev_cmp (ev_var rfl) ev_int)) fun _ => et_or (et_of (ev_cmp (ev_var rfl) ev_int)) fun _ => et_of (ev_cmp (ev_var rfl) (ev_var rfl))) (fun h => ?_) (fun _ => ?_)
  · rw [Bool.or_eq_true, Bool.or_eq_true, decide_eq_true_eq, decide_eq_true_eq, decide_eq_true_eq] at h
    have h : y < 0 ∨ n < 1 ∨ mlen i < n := h
    omega
  · refine go_end (y := 365 * y + cum i + n - 1) (ev_sub (ev_add (ev_add (ev_mul (i := 365) (j := y) ev_int (ev_var rfl) (mulL (by decide))) (ev_is (ev_sumTk (K := K) (n := i) hL (ev_is (ev_sub (ev_var rfl) ev_int) (show (i : Int) + 1 - 1 = (i : Int) by omega)) hi) rfl)) (ev_var rfl)) ev_int) out
abbrev sWeekday : Stmt := topS 17
theorem scWeekday : FnScope ["day"] ["day"] (defScope sWeekday) := ⟨rfl, rfl, rfl, by decide +kernel, rfl, by decide +kernel, by decide +kernel⟩
theorem ok_weekday {f : Addr} {fd : FuncData} {k : Nat} {t7 : Tok} (F : Fun K "weekday" "weekday" sWeekday f fd) (c_check_day : Cal P w K mg base k "_check_day" ["day"] spCk) (m_DAYS_OF_WEEK : mg "DAYS_OF_WEEK" = some (.int 7 t7)) : FnOk P w K mg base CX0 (k + 1) f fd ["day"] spWk := by
  refine ok_P F scWeekday (fun _ => rfl) fun cdv A outer s H0 S d Q E hr hp out => ⟨_, (pss_cons (ps_expr (pe_cal c_check_day hr (by rfl) (pa_cons (pv 0) pa_nil)))
      (pss_one (ps_ret (pe_op op_mod (pv 0) (pe_glob (v := .int 7) (by rfl) m_DAYS_OF_WEEK ⟨_, rfl⟩))))), ?_⟩
  refine go_drop (ev_call (z := d) (ea_cons (ev_var rfl) ea_nil) hp) ?_
  exact go_end (y := d % 7) (ev_mod (ev_var rfl) ev_int (by decide)) out
abbrev sBus : Stmt := topS 18
theorem scBus : FnScope ["day"] ["day"] (defScope sBus) := ⟨rfl, rfl, rfl, by decide +kernel, rfl, by decide +kernel, by decide +kernel⟩
theorem ok_bus {f : Addr} {fd : FuncData} {k : Nat} {t4 : Tok} (F : Fun K "is_business" "is_business" sBus f fd) (c_weekday : Cal P w K mg base k "weekday" ["day"] spWk) (m_LAST_BUSINESS : mg "LAST_BUSINESS" = some (.int 4 t4)) : FnOk P w K mg base CX0 (k + 1) f fd ["day"] spBs := by
  refine ok_P F scBus (fun _ => rfl) fun cdv A outer s H0 S d Q E hr hp out => ⟨_, (pss_one (ps_ret (pe_cmpR op_le (pe_cal c_weekday hr (by rfl) (pa_cons (pv 0) pa_nil)) (pe_glob (v := .int 4) (by rfl) m_LAST_BUSINESS ⟨_, rfl⟩) (nomark _)))), ?_⟩
  exact go_end (y := decide (d % 7 ≤ 4)) (ev_cmp (ev_call (z := d) (ea_cons (ev_var rfl) ea_nil) hp) ev_int) out
abbrev sCkWord : Stmt := topS 25
theorem scCkWord : FnScope ["word"] ["word"] (defScope sCkWord) := ⟨rfl, rfl, rfl, by decide +kernel, rfl, by decide +kernel, by decide +kernel⟩
theorem ok_ckword {f zW : Addr} {fd : FuncData} {k : Nat} (F : Fun K "_check_word" "_check_word" sCkWord f fd) (m_ADJUSTING_WORDS : mg "ADJUSTING_WORDS" = some (.ref zW)) (hW : ∀ H, SqT K H zW wdsV) : FnOk P w K mg base CX0 (k + 1) f fd ["word"] spCkW := by
  refine ok_P F scCkWord (fun _ => rfl) fun cdv A outer s H0 S z Q E hr hp out => ⟨_, (pss_one (ps_if (pt_cmpR op_notIn_seq (pv 0) (pe_glob (v := .ref zW) (by rfl) m_ADJUSTING_WORDS rfl) (by rfl)) (pss_one ps_never) pss_nil)), ?_⟩
  refine go_if (b := false) (fun σ H o Q q => ?_) (fun h => by cases h) (fun _ => go_next fun σ H o => out _ () H rfl o.bt (fun a m => nomatch m) (fun r m => nomatch m) rfl)
  obtain ⟨v, h1, rfl⟩ := o.slots 0 (tSt.is z) rfl
  refine ⟨.str z, h1, zW, wdsV, rfl, .inr (hW H), rfl, by decide, _, rfl, ?_⟩
  rw [four_inV z hp]
  exact q H (Go1.refl o)
abbrev sMonthOf : Stmt := topS 26
theorem scMonthOf : FnScope ["day", "year", "month", "_"] ["day"] (defScope sMonthOf) := ⟨rfl, rfl, rfl, by decide +kernel, rfl, by decide +kernel, by decide +kernel⟩
theorem ok_monthof {f : Addr} {fd : FuncData} {k : Nat} (F : Fun K "_month_of" "_month_of" sMonthOf f fd) (c_date_of : Cal P w K mg base k "date_of" ["day"] (spDateT K)) : FnOk P w K mg base CX0 (k + 1) f fd ["day"] (spMoT K) := by
  refine ok_P F scMonthOf (fun _ => rfl) fun cdv A outer s H0 S d Q E hr hp out => ⟨_, (pss_cons (ps_asg (pe_cal c_date_of hr (by rfl) (pa_cons (pv 0) pa_nil)) (pg_tup rfl (pgs_cons (pg_name (i := 1) scMonthOf.nd rfl (Or.inl rfl)) (pgs_cons (pg_name (i := 2) scMonthOf.nd rfl (Or.inl rfl)) (pgs_cons (pg_name (i := 3) scMonthOf.nd rfl (Or.inl rfl)) pgs_nil)))))
      (pss_one (ps_ret (pe_tup (pa_cons (pv 1) (pa_cons (pv 2) pa_nil)))))), ?_⟩
  refine go_un3 (ev_call (z := d) (ea_cons (ev_var rfl) ea_nil) hp) ?_
  exact go_end (y := (mon d / 12, mon d % 12 + 1)) (ev_pr (ev_var rfl) (ev_var rfl)) out
end
end Cs
set_option maxHeartbeats 4000000
namespace Cs
open PySem PySem.Spec PyProof.Rows L2
local macro_rules | `(tactic| walk_at "rd") => `(tactic| (first
  | (refine ⟨_, rfl, ?_⟩)
  | (refine ⟨_, _, rfl, rfl, ?_⟩)
  | (refine .inl ⟨_, rfl, ?_⟩)
  | (refine .inr ⟨_, rfl, ?_⟩)
  | (refine ⟨_, _, _, _, rfl, rfl, SqL.of upd_same, rfl, ?_⟩)
  | (refine ⟨_, _, _, _, rfl, rfl, upd_same, rfl, ?_⟩)
  | (refine ⟨_, ?xs, _, ?v, rfl, rfl, ?h, ?x, ?_⟩; (case h => first | exact SqL.of (by assumption) | exact SqT.of (by assumption) | assumption); (case x => first | rfl | exact atI_nat (j := 0) rfl | exact atI_nat (j := 1) rfl))))
local macro_rules | `(tactic| walk_at "isi") => `(tactic| (first
  | (refine ⟨_, _, _, _, _, rfl, .ty _, .base (.int _), kit_ty kit_it, ?_⟩)
  | (refine ⟨_, _, _, _, _, rfl, .ty _, .base (.int _), kit_ty kit_ib, ?_⟩)
  | (refine ⟨_, _, _, _, _, rfl, .ty _, .base (.int _), kit_ty kit_ii, ?_⟩)
  | (refine ⟨_, _, _, _, _, rfl, .ty _, .base (.bl _), kit_ty kit_bt, ?_⟩)
  | (refine ⟨_, _, _, _, _, rfl, .ty _, .base (.bl _), kit_ty kit_bb, ?_⟩)
  | (refine ⟨_, _, _, _, _, rfl, .ty _, .base (.bl _), kit_ty kit_bi, ?_⟩)))
local macro_rules | `(tactic| walk_at "ev") => `(tactic| (first
  | exact ev_var rfl
  | exact ev_int
  | exact ev_str
  | exact ev_bl
  | exact ev_non
  | (refine ev_add ?_ ?_ <;> walk_at "ev")
  | (refine ev_sub ?_ ?_ <;> walk_at "ev")
  | (refine ev_mul ?_ ?_ ?_ <;> (try walk_at "ev"))
  | (refine ev_neg ?_ <;> walk_at "ev")
  | (refine ev_num ?_ <;> walk_at "ev")
  | (refine ev_den ?_ <;> walk_at "ev")
  | (refine ev_cmp ?_ ?_ <;> walk_at "ev")
  | (refine ev_eqI ?_ ?_ <;> walk_at "ev")
  | (refine ev_eqS ?_ ?_ <;> walk_at "ev")
  | (refine ev_neI ?_ ?_ <;> walk_at "ev")
  | (refine ev_neS ?_ ?_ <;> walk_at "ev")
  | (refine ev_inS ?_ ?_ <;> walk_at "ev")
  | (refine ev_niS ?_ ?_ <;> walk_at "ev")
  | (refine ev_len ?_ <;> walk_at "ev")
  | (refine ev_list ?_ <;> walk_at "ev")
  | (refine ev_listRev ?_ <;> walk_at "ev")
  | (refine ev_int1 ?_ <;> walk_at "ev")))
local macro_rules | `(tactic| walk_at "ea") => `(tactic| (first
  | exact ea_nil
  | (refine ea_cons ?_ ?_ <;> (first | walk_at "ev" | walk_at "ea" | skip))))
local macro_rules | `(tactic| walk_at "sb") => `(tactic| (first | exact True.intro | (refine And.intro rfl ?_; walk_at "sb")))
local macro_rules | `(tactic| walk_at "subt") => `(tactic| repeat (first | exact List.nil_sublist _ | apply List.Sublist.cons₂ | apply List.Sublist.cons))
section
variable {P : Program} {w : World} {K : PySem.W.Frag} {mg : Str → Option Value} {base : Heap}
/-! ### words, months, schedules, in the typed layer -/
theorem mon_pair {a b : Int} : ((mon a / 12, mon a % 12 + 1) : Int × Int) = (mon b / 12, mon b % 12 + 1) ↔ mon a = mon b := by
  constructor
  · intro h
    have h1 := congrArg Prod.fst h
    have h2 := congrArg Prod.snd h
    have h1 : mon a / 12 = mon b / 12 := h1
    have h2 : mon a % 12 + 1 = mon b % 12 + 1 := h2
    omega
  · intro h; rw [h]
abbrev sAdjust : Stmt := topS 20
theorem scAdjust : FnScope ["day", "word", "following", "earlier"] ["day", "word"] (defScope sAdjust) := ⟨rfl, rfl, rfl, by decide +kernel, rfl, by decide +kernel, by decide +kernel⟩
theorem ok_adjust {f : Addr} {fd : FuncData} {k : Nat} {t7 t4 : Tok} (F : Fun K "adjust" "adjust" sAdjust f fd) (c_check_word : Cal P w K mg base k "_check_word" ["word"] spCkW) (c_is_business : Cal P w K mg base k "is_business" ["day"] spBs) (c_weekday : Cal P w K mg base k "weekday" ["day"] spWk) (c_month_of : Cal P w K mg base k "_month_of" ["day"] (spMoT K)) (m_DAYS_OF_WEEK : mg "DAYS_OF_WEEK" = some (.int 7 t7)) (m_LAST_BUSINESS : mg "LAST_BUSINESS" = some (.int 4 t4)) : FnOk P w K mg base CX0 (k + 1) f fd ["day", "word"] spAdjT := by
  refine ok_P F scAdjust (fun _ => rfl) fun cdv A outer s H0 S x Q E hr hp out => ⟨_, (pss_cons (ps_expr (pe_cal c_check_word hr (by rfl) (pa_cons (pv 1) pa_nil)))
      (pss_cons (ps_if (PW.pt (pw_or (pt_val (pe_cal c_is_business hr (by rfl) (pa_cons (pv 0) pa_nil))) (pw_or1 (pt_cmpR op_eq (pv 1) pe_str (nomark _))))) (pss_one (ps_ret (pv 0))) pss_nil)
      (pss_cons (ps_set (i := 2) scAdjust.nd rfl (Or.inl rfl) (pe_op op_add (pe_op op_sub (pv 0) (pe_cal c_weekday hr (by rfl) (pa_cons (pv 0) pa_nil))) (pe_glob (v := .int 7) (by rfl) m_DAYS_OF_WEEK ⟨_, rfl⟩)))
      (pss_cons (ps_set (i := 3) scAdjust.nd rfl (Or.inl rfl) (pe_op op_add (pe_op op_sub (pv 0) (pe_cal c_weekday hr (by rfl) (pa_cons (pv 0) pa_nil))) (pe_glob (v := .int 4) (by rfl) m_LAST_BUSINESS ⟨_, rfl⟩)))
      (pss_cons (ps_if (pt_cmpR op_eq (pv 1) pe_str (nomark _)) (pss_one (ps_ret (pv 3))) pss_nil)
      (pss_cons (ps_if (PW.pt (pw_and (pt_cmpR op_eq (pv 1) pe_str (nomark _)) (pw_and1 (pt_cmpR (op_neD hr.units) (pe_cal c_month_of hr (by rfl) (pa_cons (pv 2) pa_nil)) (pe_cal c_month_of hr (by rfl) (pa_cons (pv 0) pa_nil)) (nomark _))))) (pss_one (ps_ret (pv 3))) pss_nil)
      (pss_one (ps_ret (pv 2))))))))), ?_⟩
  obtain ⟨d, z⟩ := x
  obtain ⟨d0, hz⟩ := hp
  have d0 : 0 ≤ d := d0
  have hz : z ∈ fourW := hz
  dsimp only
  refine go_drop (ev_call (z := z) (ea_cons (ev_var rfl) ea_nil) hz) ?_
  refine go_ifr (et_or (et_B (ev_call (z := d) (ea_cons (ev_var rfl) ea_nil) d0)) fun _ => et_of (ev_eqS (ev_var rfl) ev_str)) (fun h => ?_) (fun h => ?_)
  · rw [Bool.or_eq_true, decide_eq_true_eq, decide_eq_true_eq] at h
    exact go_end (y := d) (ev_var rfl) out (adj_same h).symm
  rw [Bool.or_eq_false_iff, decide_eq_false_iff_not, decide_eq_false_iff_not] at h
  have wk := adj_wk (d := d) (w := z) (fun q => q.elim h.1 h.2)
  refine go_set (x := d - d % 7 + 7) (ev_add (ev_sub (ev_var rfl) (ev_call (z := d) (ea_cons (ev_var rfl) ea_nil) d0)) ev_int) ?_
  refine go_set (x := d - d % 7 + 4) (ev_add (ev_sub (ev_var rfl) (ev_call (z := d) (ea_cons (ev_var rfl) ea_nil) d0)) ev_int) ?_
  refine go_ifr (et_of (ev_eqS (ev_var rfl) ev_str)) (fun h1 => ?_) (fun h1 => ?_)
  · rw [if_pos (of_decide_eq_true h1)] at wk
    exact go_end (y := d - d % 7 + 4) (ev_var rfl) out wk.symm
  rw [if_neg (of_decide_eq_false h1)] at wk
  refine go_ifr (et_and (et_of (ev_eqS (ev_var rfl) ev_str)) fun _ => et_of (ev_neD (eqPr eqInt eqInt) (ev_call (z := d - d % 7 + 7) (ea_cons (ev_var rfl) ea_nil) (show 0 ≤ d - d % 7 + 7 by omega)) (ev_call (z := d) (ea_cons (ev_var rfl) ea_nil) d0) (by rfl) (by rfl) (by show 1 ≤ 64; decide))) (fun h2 => ?_) (fun h2 => ?_)
  · rw [Bool.and_eq_true, decide_eq_true_eq, Bool.not_eq_true', decide_eq_false_iff_not] at h2
    rw [if_pos ⟨h2.1, fun q => h2.2 (mon_pair.mpr q)⟩] at wk
    exact go_end (y := d - d % 7 + 4) (ev_var rfl) out wk.symm
  · have n2 : ¬ (z = "modified" ∧ mon (d - d % 7 + 7) ≠ mon d) := fun q => by
      rw [Bool.and_eq_false_iff, decide_eq_false_iff_not, Bool.not_eq_false', decide_eq_true_eq] at h2
      rcases h2 with h2 | h2
      · exact h2 q.1
      · exact q.2 (mon_pair.mp h2)
    rw [if_neg n2] at wk
    exact go_end (y := d - d % 7 + 7) (ev_var rfl) out wk.symm
abbrev sAddM : Stmt := topS 21
theorem scAddM : FnScope ["day", "count", "year", "month", "number", "months"] ["day", "count"] (defScope sAddM) := ⟨rfl, rfl, rfl, by decide +kernel, rfl, by decide +kernel, by decide +kernel⟩
theorem ok_addm {f : Addr} {fd : FuncData} {k : Nat} {t12 : Tok} (F : Fun K "add_months" "add_months" sAddM f fd) (c_date_of : Cal P w K mg base k "date_of" ["day"] (spDateT K)) (c_day_of : Cal P w K mg base k "day_of" ["year", "month", "number"] spDayT) (c_month_length : Cal P w K mg base k "month_length" ["month"] spML) (m_MONTHS_OF_YEAR : mg "MONTHS_OF_YEAR" = some (.int 12 t12)) (z_min : mg "min" = none) : FnOk P w K mg base CX0 (k + 1) f fd ["day", "count"] spAddT := by
  refine ok_P F scAddM (fun _ => rfl) fun cdv A outer s H0 S x Q E hr hp out => ⟨_, (pss_cons (ps_if (pt_cmpR op_lt (pv 1) pe_int (nomark _)) (pss_one ps_never) pss_nil)
      (pss_cons (ps_asg (pe_cal c_date_of hr (by rfl) (pa_cons (pv 0) pa_nil)) (pg_tup rfl (pgs_cons (pg_name (i := 2) scAddM.nd rfl (Or.inl rfl)) (pgs_cons (pg_name (i := 3) scAddM.nd rfl (Or.inl rfl)) (pgs_cons (pg_name (i := 4) scAddM.nd rfl (Or.inl rfl)) pgs_nil)))))
      (pss_cons (ps_set (i := 5) scAddM.nd rfl (Or.inl rfl) (pe_op op_add (pe_op op_sub (pe_op op_add (pe_op op_mulA (pe_glob (v := .int 12) (by rfl) m_MONTHS_OF_YEAR ⟨_, rfl⟩) (pv 2)) (pv 3)) pe_int) (pv 1)))
      (pss_cons (ps_set (i := 3) scAddM.nd rfl (Or.inl rfl) (pe_op op_add (pe_op op_mod (pv 5) (pe_glob (v := .int 12) (by rfl) m_MONTHS_OF_YEAR ⟨_, rfl⟩)) pe_int))
      (pss_one (ps_ret (pe_cal c_day_of hr (by rfl) (pa_cons (pe_op op_fdivA (pv 5) (pe_glob (v := .int 12) (by rfl) m_MONTHS_OF_YEAR ⟨_, rfl⟩)) (pa_cons (pv 3) (pa_cons (pe_callB (call_min2 rfl) (by rfl) z_min (by decide +kernel) (pa_cons (pv 4) (pa_cons (pe_cal c_month_length hr (by rfl) (pa_cons (pv 3) pa_nil)) pa_nil))) pa_nil)))))))))), ?_⟩
  obtain ⟨d, c⟩ := x
  obtain ⟨d0, c0⟩ := hp
  have d0 : 0 ≤ d := d0
  have c0 : 0 ≤ c := c0
  dsimp only
  refine go_ifr (et_of (ev_cmp (ev_var rfl) ev_int)) (fun h => absurd (of_decide_eq_true h) (by omega)) (fun _ => ?_)
  refine go_un3 (ev_call (z := d) (ea_cons (ev_var rfl) ea_nil) d0) ?_
  have D := dateR_of d
  have m0 : 0 ≤ mon d := by
    have := D.y0 d0
    omega
  refine go_set (x := mon d + c) (ev_is (ev_add (ev_sub (ev_add (ev_mul (i := 12) (j := mon d / 12) ev_int (ev_var rfl) (mulL (by decide))) (ev_var rfl)) ev_int) (ev_var rfl)) (show 12 * (mon d / 12) + (mon d % 12 + 1) - 1 + c = mon d + c by omega)) ?_
  have em : ((mon d + c) % 12 + 1) = (((mon d + c) % 12).toNat : Int) + 1 := by rw [Int.toNat_of_nonneg (Int.emod_nonneg _ (by decide))]
  refine go_set (x := (((mon d + c) % 12).toNat : Int) + 1) (ev_is (ev_add (ev_mod (ev_var rfl) ev_int (by decide)) ev_int) em) ?_
  have ld := lat_date d c
  refine go_end (y := lat d c) (ev_is (ev_call (z := ((mon d + c) / 12, ((mon d + c) % 12).toNat, mn (num d) (ml (mon d + c)))) (ea_cons (ev_is (ev_fdiv (ev_var rfl) ev_int ⟨by decide, by decide⟩) (Int.fdiv_eq_ediv_of_nonneg _ (by decide))) (ea_cons (ev_var rfl) (ea_cons (ev_is (ev_min (ev_var rfl) (ev_call (z := ((mon d + c) % 12).toNat) (ea_cons (ev_var rfl) ea_nil) ld.hi)) rfl) ea_nil))) ⟨ld.hi, by show 0 ≤ (mon d + c) / 12; omega, ld.n1, ld.n2⟩) ld.e.symm) out
abbrev spSchT (K : PySem.W.Frag) : Sp := spN (fun _ : I3 => []) (fun x => [tInt.is x.1, tInt.is x.2.1, tInt.is x.2.2]) (tLs K tInt) (fun x => 0 ≤ x.1 ∧ x.1 < x.2.1 ∧ x.2.1 ≤ x.1 + 2000 ∧ 1 ≤ x.2.2) (fun x y => ∃ T, SchedOk x.1 x.2.1 x.2.2 T ∧ y = sched x.1 x.2.1 x.2.2 T)
abbrev sSched : Stmt := topS 22
theorem scSched : FnScope ["start", "end", "months", "days", "day", "count"] ["start", "end", "months"] (defScope sSched) := ⟨rfl, rfl, rfl, by decide +kernel, rfl, by decide +kernel, by decide +kernel⟩
theorem ok_sched {f : Addr} {fd : FuncData} {k : Nat} (F : Fun K "schedule" "schedule" sSched f fd) (c_add_months : Cal P w K mg base k "add_months" ["day", "count"] spAddT) : FnOk P w K mg base CX0 (k + 1) f fd ["start", "end", "months"] (spSchT K) := by
  refine ok_N F scSched (fun _ => rfl) fun cdv A outer s H0 S x Q E hr hp out => ⟨_, (pss_cons (ps_if (PW.pt (pw_or (pt_cmpR op_lt (pv 0) pe_int (nomark _)) (pw_or (pt_cmpR op_ge (pv 0) (pv 1) (nomark _)) (pw_or1 (pt_cmpR op_lt (pv 2) pe_int (nomark _)))))) (pss_one ps_never) pss_nil)
      (pss_cons (ps_set (i := 3) scSched.nd rfl (Or.inl rfl) (pe_lst pa_nil))
      (pss_cons (ps_set (i := 4) scSched.nd rfl (Or.inl rfl) (pv 0))
      (pss_cons (ps_set (i := 5) scSched.nd rfl (Or.inl rfl) pe_int)
      (pss_cons (ps_while PassesOwn.never (pt_cmpR op_lt (pv 4) (pv 1) (nomark _)) (pss_cons (ps_expr (pe_bm PySem.F.plainAttrs_list PySem.F.slot_list_append PySem.F.type_list_append mt_append (pv 3) (pa_cons (pv 4) pa_nil)))
      (pss_cons (ps_set (i := 5) scSched.nd rfl (Or.inl rfl) (pe_op op_add (pv 5) (pv 2)))
      (pss_one (ps_set (i := 4) scSched.nd rfl (Or.inl rfl) (pe_cal c_add_months hr (by rfl) (pa_cons (pv 0) (pa_cons (pv 5) pa_nil))))))))
      (pss_one (ps_ret (pe_lst (StX.pa_star (pv 3) (pa_cons (pv 1) pa_nil)))))))))), ?_⟩
  obtain ⟨a, b, m⟩ := x
  obtain ⟨a0, ab, bb, m1⟩ := hp
  have a0 : 0 ≤ a := a0
  have ab : a < b := ab
  have bb : b ≤ a + 2000 := bb
  have m1 : 1 ≤ m := m1
  dsimp only
  refine go_ifr (et_or (et_of (ev_cmp (ev_var rfl) ev_int)) fun _ => et_or (et_of (ev_cmp (ev_var rfl) (ev_var rfl))) fun _ => et_of (ev_cmp (ev_var rfl) ev_int)) (fun h => ?_) (fun _ => ?_)
  · rw [Bool.or_eq_true, Bool.or_eq_true, decide_eq_true_eq, decide_eq_true_eq, decide_eq_true_eq] at h
    have h : a < 0 ∨ b ≤ a ∨ m < 1 := h
    omega
  refine go_ms fun hMS => ?_
  refine go_newN (t := tInt) el_nil (by show 0 ≤ sizeLine; decide) fun p np => ?_
  refine go_set (x := lat a (m * ((0 : Nat) : Int))) (ev_is (ev_var rfl) (by rw [show m * ((0 : Nat) : Int) = 0 by simp, lat_zero])) ?_
  refine go_set (x := m * ((0 : Nat) : Int)) (ev_is ev_int (by simp)) ?_
  refine go_seq (go_while (ι := Nat) (fun t => ⟨H0, [], p :: S, [cell p (cLs tInt (days0 a m t))], [], [some (tInt.is a), some (tInt.is b), some (tInt.is m), some (tRf.is p), some (tInt.is (lat a (m * (t : Int)))), some (tInt.is (m * (t : Int)))]⟩) (fun t => ∀ j : Nat, j < t → lat a (m * (j : Int)) < b) (fun t => (b - lat a (m * (t : Int))).toNat) 0 (fun j hj => absurd hj (Nat.not_lt_zero _)) (fun σ H o => o.sb (by walk_at "sb")) (fun t ht => ⟨decide (lat a (m * (t : Int)) < b), et_of (ev_cmp (ev_var rfl) (ev_var rfl)), fun hb => ?_, fun hb σ H o => ?_⟩))
  · have h := of_decide_eq_true hb
    have hc : m * (t : Int) + m = m * ((t + 1 : Nat) : Int) := by rw [Int.natCast_succ, Int.mul_add, Int.mul_one]
    have hlt := lat_lt a (a := m * (t : Int)) (b := m * ((t + 1 : Nat) : Int)) (by omega)
    have htb : (t : Int) ≤ 2000 := by
      have := lat_ge (s := a) m1 t
      omega
    refine go_app (p := p) (t := tInt) (xs := days0 a m t) (R := []) rfl (List.Perm.refl _) (ev_var rfl) (by
      rw [days0_len]
      exact Nat.lt_of_lt_of_le (show t < 4000 by omega) (by decide)) ?_
    refine go_set (x := m * ((t + 1 : Nat) : Int)) (ev_is (ev_add (ev_var rfl) (ev_var rfl)) hc) ?_
    refine go_set1 (x := lat a (m * ((t + 1 : Nat) : Int))) (ev_call (z := (a, m * ((t + 1 : Nat) : Int))) (ea_cons (ev_var rfl) (ea_cons (ev_var rfl) ea_nil)) ⟨a0, Int.mul_nonneg (by omega) (by omega)⟩) fun σ H o => ⟨t + 1, fun j hj => ?_, by omega, ?_⟩
    · rcases Nat.lt_or_ge j t with q | q
      · exact ht j q
      · have : j = t := by omega
        subst this
        exact h
    · show Ok ⟨H0, [], p :: S, [cell p (cLs tInt (days0 a m (t + 1)))], [], [some (tInt.is a), some (tInt.is b), some (tInt.is m), some (tRf.is p), some (tInt.is (lat a (m * ((t + 1 : Nat) : Int)))), some (tInt.is (m * ((t + 1 : Nat) : Int)))]⟩ σ H
      rw [days0_succ]
      exact o.sb (by walk_at "sb")
  · have h := of_decide_eq_false hb
    have okT : SchedOk a b m t := ⟨ht, by omega⟩
    dsimp only at o ⊢
    refine go_at o ?_
    refine go_frz (K := K) (i := 3) rfl hMS np hMS ?_
    refine go_end (y := sched a b m t) (ev_lst (K := K) (el_star (ev_var rfl) (el_cons (ev_var rfl) el_nil)) ?_) out ⟨t, okT, rfl⟩
    have := okT.bd m1 ab
    rw [sched_len]
    exact Nat.le_trans (show t + 1 ≤ 4000 by omega) (by decide)
/-- the periods of a schedule -/
noncomputable def pers (s e m : Int) (z : Str) (T : Nat) : List I3 := (List.range T).map fun j => (sday s e m T j, sday s e m T (j + 1), adj (sday s e m T (j + 1)) z)
theorem pers_zip {s e m : Int} {z : Str} {T : Nat} : ((sched s e m T).zip ((sched s e m T).drop 1)).map (fun p => (p.1, p.2, adj p.2 z)) = pers s e m z T := by
  refine List.ext_getElem? fun j => ?_
  unfold pers
  rw [List.getElem?_map, List.getElem?_map]
  rcases Nat.lt_or_ge j T with h | h
  · have h1 := sched_at (s := s) (e := e) (m := m) (T := T) (j := j) (by omega)
    have h2 := sched_at (s := s) (e := e) (m := m) (T := T) (j := j + 1) (by omega)
    have h3 : ((sched s e m T).zip ((sched s e m T).drop 1))[j]? = some (sday s e m T j, sday s e m T (j + 1)) := by
      rw [List.getElem?_zip_eq_some, List.getElem?_drop, Nat.add_comm 1 j]
      exact ⟨h1, h2⟩
    rw [h3, List.getElem?_range h]
    rfl
  · have h3 : ((sched s e m T).zip ((sched s e m T).drop 1))[j]? = none := by
      rw [List.getElem?_eq_none_iff, List.length_zip, List.length_drop, sched_len]
      omega
    rw [h3, List.getElem?_eq_none (by rw [List.length_range]; exact h)]
    rfl
abbrev spPerT (K : PySem.W.Frag) : Sp := spN (fun _ : I3 × Str => []) (fun x => [tInt.is x.1.1, tInt.is x.1.2.1, tInt.is x.1.2.2, tSt.is x.2]) (tLs K (tI3 K)) (fun x => (0 ≤ x.1.1 ∧ x.1.1 < x.1.2.1 ∧ x.1.2.1 ≤ x.1.1 + 2000 ∧ 1 ≤ x.1.2.2) ∧ x.2 ∈ fourW) (fun x y => ∃ T, SchedOk x.1.1 x.1.2.1 x.1.2.2 T ∧ y = pers x.1.1 x.1.2.1 x.1.2.2 x.2 T)
abbrev sPeriods : Stmt := topS 23
theorem scPeriods : FnScope ["start", "end", "months", "word", "days", "first", "last"] ["start", "end", "months", "word"] (defScope sPeriods) := ⟨rfl, rfl, rfl, by decide +kernel, rfl, by decide +kernel, by decide +kernel⟩
theorem ok_periods {f : Addr} {fd : FuncData} {k : Nat} (F : Fun K "periods" "periods" sPeriods f fd) (c_check_word : Cal P w K mg base k "_check_word" ["word"] spCkW) (c_schedule : Cal P w K mg base k "schedule" ["start", "end", "months"] (spSchT K)) (c_adjust : Cal P w K mg base k "adjust" ["day", "word"] spAdjT) (z_zip : mg "zip" = none) : FnOk P w K mg base CX0 (k + 1) f fd ["start", "end", "months", "word"] (spPerT K) := by
  refine ok_N F scPeriods (fun _ => rfl) fun cdv A outer s H0 S x Q E hr hp out => ⟨_, (pss_cons (ps_expr (pe_cal c_check_word hr (by rfl) (pa_cons (pv 3) pa_nil)))
      (pss_cons (ps_set (i := 4) scPeriods.nd rfl (Or.inl rfl) (pe_cal c_schedule hr (by rfl) (pa_cons (pv 0) (pa_cons (pv 1) (pa_cons (pv 2) pa_nil)))))
      (pss_one (ps_ret (pe_lc (own := [("first", 5), ("last", 6)]) (g := gTup K 2 (gCons (gName 5) (gCons (gName 6) gNil))) (tt := tYes) rfl scPeriods.nd (pi_zip (by rfl) z_zip (pa_cons (pv 4) (pa_cons (pe_slice sl_list (pv 4) (po_some pe_int) po_none) pa_nil))) (blkOk_by (own := [("first", 5), ("last", 6)]) (N := ["start", "end", "months", "word", "days", "first", "last"]) (sc := defScope sPeriods) (by decide +kernel)) (fun _ _ _ _ _ => (pg_tup rfl (pgs_cons (pg_name (i := 5) scPeriods.nd rfl (Or.inl rfl)) (pgs_cons (pg_name (i := 6) scPeriods.nd rfl (Or.inl rfl)) pgs_nil)))) (fun _ _ _ _ _ => pts_nil) (fun _ _ _ _ _ => (pe_tup (pa_cons (pv 5) (pa_cons (pv 6) (pa_cons (pe_cal c_adjust hr (by rfl) (pa_cons (pv 6) (pa_cons (pv 3) pa_nil))) pa_nil)))))))))), ?_⟩
  obtain ⟨⟨a, b, m⟩, z⟩ := x
  obtain ⟨hp, hz⟩ := hp
  dsimp only
  refine go_drop (ev_call (z := z) (ea_cons (ev_var rfl) ea_nil) hz) ?_
  refine go_setx (evx_call (z := (a, b, m)) (ea_cons (ev_var rfl) (ea_cons (ev_var rfl) (ea_cons (ev_var rfl) ea_nil))) hp) fun ys hys => ?_
  obtain ⟨T, okT, rfl⟩ := hys
  have okT : SchedOk a b m T := okT
  have hb := okT.bd hp.2.2.2 hp.2.1
  have hb2 : b ≤ a + 2000 := hp.2.2.1
  refine go_end (y := pers a b m z T) (ev_is (ev_lcm (K := K) (f := fun p : Int × Int => (p.1, p.2, adj p.2 z)) (iv_zip (ev_var rfl) (ev_sliceL (ev_var rfl) (eo_some ev_int) eo_none)) tgt_pair (by simp) ?_ (fun D φ F p hF hm => ev_t3 (ev_var rfl) (ev_var rfl) (ev_call (z := (p.2, z)) (ea_cons (ev_var rfl) (ea_cons (ev_var rfl) ea_nil)) ⟨?_, hz⟩))) ?_) out ⟨T, okT, rfl⟩
  · rw [List.length_zip, sched_len]
    exact Nat.lt_of_le_of_lt (Nat.min_le_left _ _) (Nat.lt_of_lt_of_le (show T + 1 < 4000 by omega) (by decide))
  · have h1 := (List.of_mem_zip hm).1
    have h2 := (List.of_mem_zip hm).2
    have e : cutL (sched a b m T) (some ((1 : Nat) : Int)) none = (sched a b m T).drop 1 := cutL_from
    have h2 : p.2 ∈ (sched a b m T).drop 1 := by rw [← e]; exact h2
    obtain ⟨j, hj⟩ := List.getElem?_of_mem (List.mem_of_mem_drop h2)
    have hl : j ≤ T := by
      have := (List.getElem?_eq_some_iff.mp hj).1
      rw [sched_len] at this
      omega
    rw [sched_at hl] at hj
    rw [← Option.some.inj hj]
    have q0 : 0 ≤ a := hp.1
    have q1 : a < b := hp.2.1
    exact sday_nn q0 (by omega) hp.2.2.2
  · have e : cutL (sched a b m T) (some ((1 : Nat) : Int)) none = (sched a b m T).drop 1 := cutL_from
    show ((sched a b m T).zip (cutL (sched a b m T) (some ((1 : Nat) : Int)) none)).map _ = _
    rw [e]
    exact pers_zip
end
end Cs
set_option maxHeartbeats 4000000
namespace Cs
open PySem PySem.Spec PyProof.Rows L2
local macro_rules | `(tactic| walk_at "rd") => `(tactic| (first
  | (refine ⟨_, rfl, ?_⟩)
  | (refine ⟨_, _, rfl, rfl, ?_⟩)
  | (refine .inl ⟨_, rfl, ?_⟩)
  | (refine .inr ⟨_, rfl, ?_⟩)
  | (refine ⟨_, _, _, _, rfl, rfl, SqL.of upd_same, rfl, ?_⟩)
  | (refine ⟨_, _, _, _, rfl, rfl, upd_same, rfl, ?_⟩)
  | (refine ⟨_, ?xs, _, ?v, rfl, rfl, ?h, ?x, ?_⟩; (case h => first | exact SqL.of (by assumption) | exact SqT.of (by assumption) | assumption); (case x => first | rfl | exact atI_nat (j := 0) rfl | exact atI_nat (j := 1) rfl))))
local macro_rules | `(tactic| walk_at "isi") => `(tactic| (first
  | (refine ⟨_, _, _, _, _, rfl, .ty _, .base (.int _), kit_ty kit_it, ?_⟩)
  | (refine ⟨_, _, _, _, _, rfl, .ty _, .base (.int _), kit_ty kit_ib, ?_⟩)
  | (refine ⟨_, _, _, _, _, rfl, .ty _, .base (.int _), kit_ty kit_ii, ?_⟩)
  | (refine ⟨_, _, _, _, _, rfl, .ty _, .base (.bl _), kit_ty kit_bt, ?_⟩)
  | (refine ⟨_, _, _, _, _, rfl, .ty _, .base (.bl _), kit_ty kit_bb, ?_⟩)
  | (refine ⟨_, _, _, _, _, rfl, .ty _, .base (.bl _), kit_ty kit_bi, ?_⟩)))
local macro_rules | `(tactic| walk_at "ev") => `(tactic| (first
  | exact ev_var rfl
  | exact ev_int
  | exact ev_str
  | exact ev_bl
  | exact ev_non
  | (refine ev_add ?_ ?_ <;> walk_at "ev")
  | (refine ev_sub ?_ ?_ <;> walk_at "ev")
  | (refine ev_mul ?_ ?_ ?_ <;> (try walk_at "ev"))
  | (refine ev_neg ?_ <;> walk_at "ev")
  | (refine ev_num ?_ <;> walk_at "ev")
  | (refine ev_den ?_ <;> walk_at "ev")
  | (refine ev_cmp ?_ ?_ <;> walk_at "ev")
  | (refine ev_eqI ?_ ?_ <;> walk_at "ev")
  | (refine ev_eqS ?_ ?_ <;> walk_at "ev")
  | (refine ev_neI ?_ ?_ <;> walk_at "ev")
  | (refine ev_neS ?_ ?_ <;> walk_at "ev")
  | (refine ev_inS ?_ ?_ <;> walk_at "ev")
  | (refine ev_niS ?_ ?_ <;> walk_at "ev")
  | (refine ev_len ?_ <;> walk_at "ev")
  | (refine ev_list ?_ <;> walk_at "ev")
  | (refine ev_listRev ?_ <;> walk_at "ev")
  | (refine ev_int1 ?_ <;> walk_at "ev")))
local macro_rules | `(tactic| walk_at "ea") => `(tactic| (first
  | exact ea_nil
  | (refine ea_cons ?_ ?_ <;> (first | walk_at "ev" | walk_at "ea" | skip))))
local macro_rules | `(tactic| walk_at "sb") => `(tactic| (first | exact True.intro | (refine And.intro rfl ?_; walk_at "sb")))
local macro_rules | `(tactic| walk_at "subt") => `(tactic| repeat (first | exact List.nil_sublist _ | apply List.Sublist.cons₂ | apply List.Sublist.cons))
section
variable {P : Program} {w : World} {K : PySem.W.Frag} {mg : Str → Option Value} {base : Heap}
/-! ### fractions, parts of a year, interests -/
def AF2 (K : PySem.W.Frag) (x : Rat × Rat) : List SF := [(tFr K).is x.1, (tFr K).is x.2]
abbrev Sz2 (x : Rat × Rat) : Prop := Sz 1000 x.1 ∧ Sz 1000 x.2
abbrev spPlusT (K : PySem.W.Frag) : Sp := spP (AF2 K) (tFr K) Sz2 (fun x => x.1 + x.2)
abbrev spMinusT (K : PySem.W.Frag) : Sp := spP (AF2 K) (tFr K) Sz2 (fun x => x.1 - x.2)
abbrev spTimesT (K : PySem.W.Frag) : Sp := spP (AF2 K) (tFr K) Sz2 (fun x => x.1 * x.2)
abbrev spOverT (K : PySem.W.Frag) : Sp := spP (AF2 K) (tFr K) (fun x => Sz2 x ∧ x.2.num ≠ 0) (fun x => x.1 / x.2)
abbrev spTotT (K : PySem.W.Frag) : Sp := spP (fun xs : List Rat => [(tLs K (tFr K)).is xs]) (tFr K) (fun xs => (∀ r ∈ xs, Bq 1 r) ∧ xs.length ≤ 1000) rsum
abbrev sPlus : Stmt := topS 30
theorem scPlus : FnScope ["a", "b"] ["a", "b"] (defScope sPlus) := ⟨rfl, rfl, rfl, by decide +kernel, rfl, by decide +kernel, by decide +kernel⟩
theorem ok_plus {f : Addr} {fd : FuncData} {k : Nat} (F : Fun K "plus" "plus" sPlus f fd) (c_fraction : Cal P w K mg base k "fraction" ["p", "q"] spFrac) : FnOk P w K mg base CX0 (k + 1) f fd ["a", "b"] (spPlusT K) := by
  refine ok_P F scPlus (fun _ => rfl) fun cdv A outer s H0 S x Q E hr hp out => ⟨_, (pss_one (ps_ret (pe_cal c_fraction hr (by rfl) (pa_cons (pe_op op_add (pe_op op_mulA (pe_ix ix_tup (pv 0) pe_int (fun _ _ => rfl)) (pe_ix ix_tup (pv 1) pe_int (fun _ _ => rfl))) (pe_op op_mulA (pe_ix ix_tup (pv 1) pe_int (fun _ _ => rfl)) (pe_ix ix_tup (pv 0) pe_int (fun _ _ => rfl)))) (pa_cons (pe_op op_mulA (pe_ix ix_tup (pv 0) pe_int (fun _ _ => rfl)) (pe_ix ix_tup (pv 1) pe_int (fun _ _ => rfl))) pa_nil))))), ?_⟩
  obtain ⟨h, g⟩ := hp
  refine go_end (y := x.1 + x.2) (ev_is (ev_frc (ev_add (ev_mul (ev_num (ev_var rfl)) (ev_den (ev_var rfl)) (mulZ h.nn g.dd)) (ev_mul (ev_num (ev_var rfl)) (ev_den (ev_var rfl)) (mulZ g.nn h.dd))) (ev_mul (ev_den (ev_var rfl)) (ev_den (ev_var rfl)) (mulZ h.dd g.dd)) (Int.mul_ne_zero (den_ne _) (den_ne _)) (lt9 (pow_lt h.dd g.dd) (by decide))) (add_div _ _)) out
abbrev sMinus : Stmt := topS 31
theorem scMinus : FnScope ["a", "b"] ["a", "b"] (defScope sMinus) := ⟨rfl, rfl, rfl, by decide +kernel, rfl, by decide +kernel, by decide +kernel⟩
theorem ok_minus {f : Addr} {fd : FuncData} {k : Nat} (F : Fun K "minus" "minus" sMinus f fd) (c_fraction : Cal P w K mg base k "fraction" ["p", "q"] spFrac) : FnOk P w K mg base CX0 (k + 1) f fd ["a", "b"] (spMinusT K) := by
  refine ok_P F scMinus (fun _ => rfl) fun cdv A outer s H0 S x Q E hr hp out => ⟨_, (pss_one (ps_ret (pe_cal c_fraction hr (by rfl) (pa_cons (pe_op op_sub (pe_op op_mulA (pe_ix ix_tup (pv 0) pe_int (fun _ _ => rfl)) (pe_ix ix_tup (pv 1) pe_int (fun _ _ => rfl))) (pe_op op_mulA (pe_ix ix_tup (pv 1) pe_int (fun _ _ => rfl)) (pe_ix ix_tup (pv 0) pe_int (fun _ _ => rfl)))) (pa_cons (pe_op op_mulA (pe_ix ix_tup (pv 0) pe_int (fun _ _ => rfl)) (pe_ix ix_tup (pv 1) pe_int (fun _ _ => rfl))) pa_nil))))), ?_⟩
  obtain ⟨h, g⟩ := hp
  refine go_end (y := x.1 - x.2) (ev_is (ev_frc (ev_sub (ev_mul (ev_num (ev_var rfl)) (ev_den (ev_var rfl)) (mulZ h.nn g.dd)) (ev_mul (ev_num (ev_var rfl)) (ev_den (ev_var rfl)) (mulZ g.nn h.dd))) (ev_mul (ev_den (ev_var rfl)) (ev_den (ev_var rfl)) (mulZ h.dd g.dd)) (Int.mul_ne_zero (den_ne _) (den_ne _)) (lt9 (pow_lt h.dd g.dd) (by decide))) (sub_div _ _)) out
abbrev sTimes : Stmt := topS 32
theorem scTimes : FnScope ["a", "b"] ["a", "b"] (defScope sTimes) := ⟨rfl, rfl, rfl, by decide +kernel, rfl, by decide +kernel, by decide +kernel⟩
theorem ok_times {f : Addr} {fd : FuncData} {k : Nat} (F : Fun K "times" "times" sTimes f fd) (c_fraction : Cal P w K mg base k "fraction" ["p", "q"] spFrac) : FnOk P w K mg base CX0 (k + 1) f fd ["a", "b"] (spTimesT K) := by
  refine ok_P F scTimes (fun _ => rfl) fun cdv A outer s H0 S x Q E hr hp out => ⟨_, (pss_one (ps_ret (pe_cal c_fraction hr (by rfl) (pa_cons (pe_op op_mulA (pe_ix ix_tup (pv 0) pe_int (fun _ _ => rfl)) (pe_ix ix_tup (pv 1) pe_int (fun _ _ => rfl))) (pa_cons (pe_op op_mulA (pe_ix ix_tup (pv 0) pe_int (fun _ _ => rfl)) (pe_ix ix_tup (pv 1) pe_int (fun _ _ => rfl))) pa_nil))))), ?_⟩
  obtain ⟨h, g⟩ := hp
  refine go_end (y := x.1 * x.2) (ev_is (ev_frc (ev_mul (ev_num (ev_var rfl)) (ev_num (ev_var rfl)) (mulZ h.nn g.nn)) (ev_mul (ev_den (ev_var rfl)) (ev_den (ev_var rfl)) (mulZ h.dd g.dd)) (Int.mul_ne_zero (den_ne _) (den_ne _)) (lt9 (pow_lt h.dd g.dd) (by decide))) (mul_div _ _)) out
abbrev sOver : Stmt := topS 33
theorem scOver : FnScope ["a", "b"] ["a", "b"] (defScope sOver) := ⟨rfl, rfl, rfl, by decide +kernel, rfl, by decide +kernel, by decide +kernel⟩
theorem ok_over {f : Addr} {fd : FuncData} {k : Nat} (F : Fun K "over" "over" sOver f fd) (c_fraction : Cal P w K mg base k "fraction" ["p", "q"] spFrac) : FnOk P w K mg base CX0 (k + 1) f fd ["a", "b"] (spOverT K) := by
  refine ok_P F scOver (fun _ => rfl) fun cdv A outer s H0 S x Q E hr hp out => ⟨_, (pss_one (ps_ret (pe_cal c_fraction hr (by rfl) (pa_cons (pe_op op_mulA (pe_ix ix_tup (pv 0) pe_int (fun _ _ => rfl)) (pe_ix ix_tup (pv 1) pe_int (fun _ _ => rfl))) (pa_cons (pe_op op_mulA (pe_ix ix_tup (pv 0) pe_int (fun _ _ => rfl)) (pe_ix ix_tup (pv 1) pe_int (fun _ _ => rfl))) pa_nil))))), ?_⟩
  obtain ⟨⟨h, g⟩, nz⟩ := hp
  refine go_end (y := x.1 / x.2) (ev_is (ev_frc (ev_mul (ev_num (ev_var rfl)) (ev_den (ev_var rfl)) (mulZ h.nn g.dd)) (ev_mul (ev_den (ev_var rfl)) (ev_num (ev_var rfl)) (mulZ h.dd g.nn)) (Int.mul_ne_zero (den_ne _) nz) (lt9 (pow_lt h.dd g.nn) (by decide))) (div_div _ _)) out
abbrev sTotal : Stmt := topS 34
theorem scTotal : FnScope ["values", "result", "value"] ["values"] (defScope sTotal) := ⟨rfl, rfl, rfl, by decide +kernel, rfl, by decide +kernel, by decide +kernel⟩
theorem ok_total {f zZ : Addr} {fd : FuncData} {k : Nat} (F : Fun K "total" "total" sTotal f fd) (c_plus : Cal P w K mg base k "plus" ["a", "b"] (spPlusT K)) (m_ZERO : mg "ZERO" = some (.ref zZ)) (hZ : ∀ H, SqT K H zZ [.int 0, .int 1]) : FnOk P w K mg base CX0 (k + 1) f fd ["values"] (spTotT K) := by
  refine ok_P F scTotal (fun _ => rfl) fun cdv A outer s H0 S xs Q E hr hp out => ⟨_, (pss_cons (ps_set (i := 1) scTotal.nd rfl (Or.inl rfl) (pe_glob (v := .ref zZ) (by rfl) m_ZERO rfl))
      (pss_cons (ps_for PassesOwn.never rfl (pi_list (pv 0)) (pg_name (i := 2) scTotal.nd rfl (Or.inl rfl)) (pss_one (ps_set (i := 1) scTotal.nd rfl (Or.inl rfl) (pe_cal c_plus hr (by rfl) (pa_cons (pv 1) (pa_cons (pv 2) pa_nil))))))
      (pss_one (ps_ret (pv 1))))), ?_⟩
  obtain ⟨hz, hl⟩ := hp
  refine go_set (t := tFr K) (x := 0) (ev_k fun H => ⟨zZ, rfl, hZ H⟩) ?_
  refine go_seq (go_for (ι := Unit) (iv_list (ev_var rfl)) tgt_name (fun k _ => ([], [some ((tLs K (tFr K)).is xs), some ((tFr K).is (rpre xs k)), none])) (fun _ _ => True) () trivial (fun σ H o => o.sb (by walk_at "sb")) (fun k _ x f hx _ => ?_) (fun _ _ σ H o => ?_))
  · have hk : k < xs.length := (List.getElem?_eq_some_iff.mp hx).1
    have hb : Bq k (rpre xs k) := by
      have := Bq.sum (n := 1) (rs := xs.take k) fun r m => hz r (List.mem_of_mem_take m)
      rw [List.length_take, Nat.min_eq_left (by omega), Nat.one_mul] at this
      exact this
    refine go_set1 (x := rpre xs k + x) (ev_call (z := (rpre xs k, x)) (ea_cons (ev_var rfl) (ea_cons (ev_var rfl) ea_nil)) ⟨(hb.sz (by omega)).mono (by decide), ((hz x (List.mem_of_getElem? hx)).sz (by decide)).mono (by decide)⟩) fun σ H o => ⟨(), trivial, ?_⟩
    show Ok ⟨H0, [], S, [], [f], [some ((tLs K (tFr K)).is xs), some ((tFr K).is (rpre xs (k + 1))), none]⟩ σ H
    rw [rpre_succ hx]
    exact o.sb (by walk_at "sb")
  · exact go_at o (go_end (y := rpre xs xs.length) (ev_var rfl) out (hp := rpre_all xs))
abbrev spNumT (K : PySem.W.Frag) (f : Str → Int → Rat) : Sp := spP (fun x : Str × Int => [tSt.is x.1, tInt.is x.2]) (tFr K) (fun x => x.1 ∈ counts ∧ 0 ≤ x.2 ∧ x.2 ≤ 10000) (fun x => f x.1 x.2)
abbrev spPartT (K : PySem.W.Frag) : Sp := spP (fun x : Str × Int × Int => [tSt.is x.1, tInt.is x.2.1, tInt.is x.2.2]) (tFr K) (fun x => x.1 ∈ counts ∧ 0 ≤ x.2.1 ∧ x.2.1 ≤ x.2.2 ∧ x.2.2 ≤ 10000) (fun x => prt x.1 x.2.1 x.2.2)
structure InA where
  p : Rat
  r : Rat
  c : Str
  a : Int
  b : Int
abbrev spIntT (K : PySem.W.Frag) : Sp := spP (fun x : InA => [(tFr K).is x.p, (tFr K).is x.r, tSt.is x.c, tInt.is x.a, tInt.is x.b]) (tFr K) (fun x => Sz 100 x.p ∧ Sz 100 x.r ∧ x.c ∈ counts ∧ 0 ≤ x.a ∧ x.a ≤ x.b ∧ x.b ≤ 10000) (fun x => x.p * x.r * prt x.c x.a x.b)
abbrev sNumberOf : Stmt := topS 39
theorem scNumberOf : FnScope ["count", "day", "year", "month", "number"] ["count", "day"] (defScope sNumberOf) := ⟨rfl, rfl, rfl, by decide +kernel, rfl, by decide +kernel, by decide +kernel⟩
theorem ok_numberof {f : Addr} {fd : FuncData} {k : Nat} (F : Fun K "_number_of" "_number_of" sNumberOf f fd) (c_date_of : Cal P w K mg base k "date_of" ["day"] (spDateT K)) (c_month_length : Cal P w K mg base k "month_length" ["month"] spML) (c_fraction : Cal P w K mg base k "fraction" ["p", "q"] spFrac) (c_fraction1 : CalD P w K mg base k "fraction" ["p", "q"] [.int 1] spFrac) (c_plus : Cal P w K mg base k "plus" ["a", "b"] (spPlusT K)) (z_min : mg "min" = none) : FnOk P w K mg base CX0 (k + 1) f fd ["count", "day"] (spNumT K numP) := by
  refine ok_P F scNumberOf (fun _ => rfl) fun cdv A outer s H0 S x Q E hr hp out => ⟨_, (pss_cons (ps_if (pt_cmpR op_eq (pv 0) pe_str (nomark _)) (pss_one (ps_ret (pe_calD c_fraction1 hr (by rfl) (pa_cons (pv 1) pa_nil)))) pss_nil)
      (pss_cons (ps_asg (pe_cal c_date_of hr (by rfl) (pa_cons (pv 1) pa_nil)) (pg_tup rfl (pgs_cons (pg_name (i := 2) scNumberOf.nd rfl (Or.inl rfl)) (pgs_cons (pg_name (i := 3) scNumberOf.nd rfl (Or.inl rfl)) (pgs_cons (pg_name (i := 4) scNumberOf.nd rfl (Or.inl rfl)) pgs_nil)))))
      (pss_cons (ps_if (pt_cmpR op_eq (pv 0) pe_str (nomark _)) (pss_one (ps_ret (pe_calD c_fraction1 hr (by rfl) (pa_cons (pe_op op_add (pe_op op_add (pe_op op_mulA pe_int (pv 2)) (pe_op op_mulA pe_int (pv 3))) (pe_callB (call_min2 rfl) (by rfl) z_min (by decide +kernel) (pa_cons (pv 4) (pa_cons pe_int pa_nil)))) pa_nil)))) pss_nil)
      (pss_one (ps_ret (pe_cal c_plus hr (by rfl) (pa_cons (pe_calD c_fraction1 hr (by rfl) (pa_cons (pe_op op_add (pe_op op_mulA pe_int (pv 2)) (pv 3)) pa_nil)) (pa_cons (pe_cal c_fraction hr (by rfl) (pa_cons (pe_op op_sub (pv 4) pe_int) (pa_cons (pe_cal c_month_length hr (by rfl) (pa_cons (pv 3) pa_nil)) pa_nil))) pa_nil)))))))), ?_⟩
  obtain ⟨c, d⟩ := x
  obtain ⟨hc, d0, d1⟩ := hp
  have d0 : 0 ≤ d := d0
  have d1 : d ≤ 10000 := d1
  dsimp only
  have hms := mon_small d0 d1
  have hns := num_small d
  refine go_ifr (et_of (ev_eqS (ev_var rfl) ev_str)) (fun h1 => ?_) (fun h1 => ?_)
  · refine go_end (y := numP c d) (ev_is (ev_frc1 (ev_var rfl)) ?_) out
    unfold numP
    rw [if_pos (of_decide_eq_true h1), one_div]
  have h1 := of_decide_eq_false h1
  refine go_un3 (ev_call (z := d) (ea_cons (ev_var rfl) ea_nil) d0) ?_
  refine go_ifr (et_of (ev_eqS (ev_var rfl) ev_str)) (fun h2 => ?_) (fun h2 => ?_)
  · refine go_end (y := numP c d) (ev_is (ev_frc1 (p := 30 * mon d + 30 + mn (num d) 30) (ev_is (ev_add (ev_add (ev_mul (i := 360) (j := mon d / 12) ev_int (ev_var rfl) (mulL (by decide))) (ev_mul (i := 30) (j := mon d % 12 + 1) ev_int (ev_var rfl) (mulL (by decide)))) (ev_is (ev_min (ev_var rfl) ev_int) (show _ = mn (num d) 30 from rfl))) (show 360 * (mon d / 12) + 30 * (mon d % 12 + 1) + mn (num d) 30 = _ by omega))) ?_) out
    unfold numP
    rw [if_neg h1, if_pos (of_decide_eq_true h2), one_div]
  · have h2 := of_decide_eq_false h2
    have hl := ml_bd (mon d)
    have e1 : numP c d = ((mon d + 1 : Int) : Rat) + Rat.divInt (num d - 1) (ml (mon d)) := by
      unfold numP
      rw [if_neg h1, if_neg h2, one_div]
    have em : (mon d % 12).toNat < 12 := ix12 (mon d)
    refine go_end (y := numP c d) (ev_is (ev_call (z := (((mon d + 1 : Int) : Rat), Rat.divInt (num d - 1) (ml (mon d)))) (ea_cons (ev_frc1 (ev_is (ev_add (ev_mul (i := 12) (j := mon d / 12) ev_int (ev_var rfl) (mulL (by decide))) (ev_var rfl)) (show 12 * (mon d / 12) + (mon d % 12 + 1) = mon d + 1 by omega))) (ea_cons (ev_frc (ev_sub (ev_var rfl) ev_int) (ev_is (ev_call (z := (mon d % 12).toNat) (ea_cons (ev_is (ev_var rfl) (show mon d % 12 + 1 = ((mon d % 12).toNat : Int) + 1 by omega)) ea_nil) em) (show mlen (mon d % 12).toNat = ml (mon d) from rfl)) (by omega) (Nat.lt_of_lt_of_le (show (ml (mon d)).natAbs < 2 ^ 6 by omega) (Nat.pow_le_pow_right (by decide) (by decide)))) ea_nil)) ⟨?_, ?_⟩) e1.symm) out
    · exact (Sz.int (k := 20) (show (mon d + 1).natAbs < 2 ^ 20 by omega) (by decide)).mono (by decide)
    · exact (sz_div (n := 20) (by omega) (show (num d - 1).natAbs < 2 ^ 20 by omega) (show (ml (mon d)).natAbs < 2 ^ 20 by omega)).mono (by decide)
abbrev sPart : Stmt := topS 37
theorem scPart : FnScope ["count", "start", "end", "difference"] ["count", "start", "end"] (defScope sPart) := ⟨rfl, rfl, rfl, by decide +kernel, rfl, by decide +kernel, by decide +kernel⟩
theorem ok_part {f zD : Addr} {fd : FuncData} {k : Nat} (F : Fun K "part" "part" sPart f fd) (c_number_of : Cal P w K mg base k "_number_of" ["count", "day"] (spNumT K numP)) (c_minus : Cal P w K mg base k "minus" ["a", "b"] (spMinusT K)) (c_over : Cal P w K mg base k "over" ["a", "b"] (spOverT K)) (c_fraction1 : CalD P w K mg base k "fraction" ["p", "q"] [.int 1] spFrac) (m_DIVISORS : mg "DIVISORS" = some (.ref zD)) (hs : (zD == sysModules) = false) (hD : ∀ c ∈ counts, KDct K w zD c (.int (dvs c))) : FnOk P w K mg base CX0 (k + 1) f fd ["count", "start", "end"] (spPartT K) := by
  refine ok_P F scPart (fun _ => rfl) fun cdv A outer s H0 S x Q E hr hp out => ⟨_, (pss_cons (ps_if (pt_cmpR op_notInKd (pv 0) (pe_glob (v := .ref zD) (by rfl) m_DIVISORS rfl) (by rfl)) (pss_one ps_never) pss_nil)
      (pss_cons (ps_if (PW.pt (pw_or (pt_cmpR op_lt (pv 1) pe_int (nomark _)) (pw_or1 (pt_cmpR op_gt (pv 1) (pv 2) (nomark _))))) (pss_one ps_never) pss_nil)
      (pss_cons (ps_set (i := 3) scPart.nd rfl (Or.inl rfl) (pe_cal c_minus hr (by rfl) (pa_cons (pe_cal c_number_of hr (by rfl) (pa_cons (pv 0) (pa_cons (pv 2) pa_nil))) (pa_cons (pe_cal c_number_of hr (by rfl) (pa_cons (pv 0) (pa_cons (pv 1) pa_nil))) pa_nil))))
      (pss_one (ps_ret (pe_cal c_over hr (by rfl) (pa_cons (pv 3) (pa_cons (pe_calD c_fraction1 hr (by rfl) (pa_cons (pe_ix ix_kdict (pe_glob (v := .ref zD) (by rfl) m_DIVISORS rfl) (pv 0) (fun _ _ => rfl)) pa_nil)) pa_nil)))))))), ?_⟩
  obtain ⟨c, a, b⟩ := x
  obtain ⟨hc, a0, ab, b1⟩ := hp
  have hc : c ∈ counts := hc
  have a0 : 0 ≤ a := a0
  have ab : a ≤ b := ab
  have b1 : b ≤ 10000 := b1
  dsimp only
  refine go_ifr (et_notKd (ev_var rfl) hs (hD c hc)) (fun h => by cases h) (fun _ => ?_)
  refine go_ifr (et_or (et_of (ev_cmp (ev_var rfl) ev_int)) fun _ => et_of (ev_cmp (ev_var rfl) (ev_var rfl))) (fun h => ?_) (fun _ => ?_)
  · rw [Bool.or_eq_true, decide_eq_true_eq, decide_eq_true_eq] at h
    have h : a < 0 ∨ b < a := h
    omega
  have z1 := numP_sz c (show 0 ≤ b by omega) b1
  have z2 := numP_sz c a0 (show a ≤ 10000 by omega)
  refine go_set (x := numP c b - numP c a) (ev_call (z := (numP c b, numP c a)) (ea_cons (ev_call (z := (c, b)) (ea_cons (ev_var rfl) (ea_cons (ev_var rfl) ea_nil)) ⟨hc, by show 0 ≤ b; omega, b1⟩) (ea_cons (ev_call (z := (c, a)) (ea_cons (ev_var rfl) (ea_cons (ev_var rfl) ea_nil)) ⟨hc, a0, by show a ≤ 10000; omega⟩) ea_nil)) ⟨z1.mono (by decide), z2.mono (by decide)⟩) ?_
  have hd0 := dvs_pos c
  have hd1 : (dvs c).natAbs < 2 ^ 10 := by
    unfold dvs
    split
    · decide
    · split <;> decide
  refine go_end (y := prt c a b) (ev_call (z := (numP c b - numP c a, ((dvs c : Int) : Rat))) (ea_cons (ev_var rfl) (ea_cons (ev_frc1 (ev_kdI (ev_var rfl) (hD c hc))) ea_nil)) ⟨⟨?_, (Sz.int hd1 (by decide)).mono (by decide)⟩, ?_⟩) out
  · rw [show numP c b - numP c a = Rat.divInt ((numP c b).num * (numP c a).den - (numP c a).num * (numP c b).den) ((numP c b).den * (numP c a).den) from (sub_div _ _).symm]
    refine (sz_div (n := 210) (Int.mul_ne_zero (den_ne _) (den_ne _)) ?_ ?_).mono (by decide)
    · have q1 := pow_lt z1.nn z2.dd
      have q2 := pow_lt z2.nn z1.dd
      have q3 : (2 : Nat) ^ (100 + 100) + 2 ^ (100 + 100) < 2 ^ 210 := by decide
      omega
    · exact Nat.lt_of_lt_of_le (pow_lt z1.dd z2.dd) (by decide)
  · show ((dvs c : Int) : Rat).num ≠ 0
    rw [Rat.num_intCast]
    omega
abbrev sInterest : Stmt := topS 38
theorem scInterest : FnScope ["principal", "rate", "count", "start", "end"] ["principal", "rate", "count", "start", "end"] (defScope sInterest) := ⟨rfl, rfl, rfl, by decide +kernel, rfl, by decide +kernel, by decide +kernel⟩
theorem ok_interest {f : Addr} {fd : FuncData} {k : Nat} (F : Fun K "interest" "interest" sInterest f fd) (c_times : Cal P w K mg base k "times" ["a", "b"] (spTimesT K)) (c_part : Cal P w K mg base k "part" ["count", "start", "end"] (spPartT K)) : FnOk P w K mg base CX0 (k + 1) f fd ["principal", "rate", "count", "start", "end"] (spIntT K) := by
  refine ok_P F scInterest (fun _ => rfl) fun cdv A outer s H0 S x Q E hr hp out => ⟨_, (pss_one (ps_ret (pe_cal c_times hr (by rfl) (pa_cons (pe_cal c_times hr (by rfl) (pa_cons (pv 0) (pa_cons (pv 1) pa_nil))) (pa_cons (pe_cal c_part hr (by rfl) (pa_cons (pv 2) (pa_cons (pv 3) (pa_cons (pv 4) pa_nil)))) pa_nil))))), ?_⟩
  obtain ⟨hp1, hp2, hc, a0, ab, b1⟩ := hp
  have hm : Sz 200 (x.p * x.r) := by
    rw [← mul_div]
    exact sz_div (Int.mul_ne_zero (den_ne _) (den_ne _)) (pow_lt hp1.nn hp2.nn) (pow_lt hp1.dd hp2.dd)
  refine go_end (y := x.p * x.r * prt x.c x.a x.b) (ev_call (z := (x.p * x.r, prt x.c x.a x.b)) (ea_cons (ev_call (z := (x.p, x.r)) (ea_cons (ev_var rfl) (ea_cons (ev_var rfl) ea_nil)) ⟨hp1.mono (by decide), hp2.mono (by decide)⟩) (ea_cons (ev_call (z := (x.c, x.a, x.b)) (ea_cons (ev_var rfl) (ea_cons (ev_var rfl) (ea_cons (ev_var rfl) ea_nil))) ⟨hc, a0, ab, b1⟩) ea_nil)) ⟨hm.mono (by decide), (prt_sz x.c a0 (by omega) (by omega) b1).mono (by decide)⟩) out
end
end Cs
set_option maxHeartbeats 4000000
namespace Cs
open PySem PySem.Spec PyProof.Rows L2
local macro_rules | `(tactic| walk_at "rd") => `(tactic| (first
  | (refine ⟨_, rfl, ?_⟩)
  | (refine ⟨_, _, rfl, rfl, ?_⟩)
  | (refine .inl ⟨_, rfl, ?_⟩)
  | (refine .inr ⟨_, rfl, ?_⟩)
  | (refine ⟨_, _, _, _, rfl, rfl, SqL.of upd_same, rfl, ?_⟩)
  | (refine ⟨_, _, _, _, rfl, rfl, upd_same, rfl, ?_⟩)
  | (refine ⟨_, ?xs, _, ?v, rfl, rfl, ?h, ?x, ?_⟩; (case h => first | exact SqL.of (by assumption) | exact SqT.of (by assumption) | assumption); (case x => first | rfl | exact atI_nat (j := 0) rfl | exact atI_nat (j := 1) rfl))))
local macro_rules | `(tactic| walk_at "isi") => `(tactic| (first
  | (refine ⟨_, _, _, _, _, rfl, .ty _, .base (.int _), kit_ty kit_it, ?_⟩)
  | (refine ⟨_, _, _, _, _, rfl, .ty _, .base (.int _), kit_ty kit_ib, ?_⟩)
  | (refine ⟨_, _, _, _, _, rfl, .ty _, .base (.int _), kit_ty kit_ii, ?_⟩)
  | (refine ⟨_, _, _, _, _, rfl, .ty _, .base (.bl _), kit_ty kit_bt, ?_⟩)
  | (refine ⟨_, _, _, _, _, rfl, .ty _, .base (.bl _), kit_ty kit_bb, ?_⟩)
  | (refine ⟨_, _, _, _, _, rfl, .ty _, .base (.bl _), kit_ty kit_bi, ?_⟩)))
local macro_rules | `(tactic| walk_at "ev") => `(tactic| (first
  | exact ev_var rfl
  | exact ev_int
  | exact ev_str
  | exact ev_bl
  | exact ev_non
  | (refine ev_add ?_ ?_ <;> walk_at "ev")
  | (refine ev_sub ?_ ?_ <;> walk_at "ev")
  | (refine ev_mul ?_ ?_ ?_ <;> (try walk_at "ev"))
  | (refine ev_neg ?_ <;> walk_at "ev")
  | (refine ev_num ?_ <;> walk_at "ev")
  | (refine ev_den ?_ <;> walk_at "ev")
  | (refine ev_cmp ?_ ?_ <;> walk_at "ev")
  | (refine ev_eqI ?_ ?_ <;> walk_at "ev")
  | (refine ev_eqS ?_ ?_ <;> walk_at "ev")
  | (refine ev_neI ?_ ?_ <;> walk_at "ev")
  | (refine ev_neS ?_ ?_ <;> walk_at "ev")
  | (refine ev_inS ?_ ?_ <;> walk_at "ev")
  | (refine ev_niS ?_ ?_ <;> walk_at "ev")
  | (refine ev_len ?_ <;> walk_at "ev")
  | (refine ev_list ?_ <;> walk_at "ev")
  | (refine ev_listRev ?_ <;> walk_at "ev")
  | (refine ev_int1 ?_ <;> walk_at "ev")))
local macro_rules | `(tactic| walk_at "ea") => `(tactic| (first
  | exact ea_nil
  | (refine ea_cons ?_ ?_ <;> (first | walk_at "ev" | walk_at "ea" | skip))))
local macro_rules | `(tactic| walk_at "sb") => `(tactic| (first | exact True.intro | (refine And.intro rfl ?_; walk_at "sb")))
local macro_rules | `(tactic| walk_at "subt") => `(tactic| repeat (first | exact List.nil_sublist _ | apply List.Sublist.cons₂ | apply List.Sublist.cons))
section
variable {P : Program} {w : World} {K : PySem.W.Frag} {mg : Str → Option Value} {base : Heap}
/-! ### bonds, their periods -/
structure B9 where
  face : Rat
  first : Int
  last : Int
  months : Int
  count : Str
  adjust : Str
def b9F (K : PySem.W.Frag) (b : B9) : List (Str × SF) := [("face", (tFr K).is b.face), ("first_day", tInt.is b.first), ("last_day", tInt.is b.last), ("months", tInt.is b.months), ("count", tSt.is b.count), ("adjust", tSt.is b.adjust)]
abbrev tB9 (K : PySem.W.Frag) (CB : Addr) : Ty B9 := tOb CB (b9F K)
structure Bo (b : B9) : Prop where
  f0 : 0 ≤ b.first
  f1 : b.first ≤ 1000
  l0 : b.first < b.last
  l1 : b.last ≤ b.first + 1000
  m1 : 1 ≤ b.months
  m2 : b.months ≤ 20
  ad : b.adjust ∈ fourW
  ct : b.count ∈ counts
  fc : Fq b.face
structure BondC (K : PySem.W.Frag) (CB : Addr) : Prop where
  cl : Cls K CB
  n0 : NoAttr K CB "name"
  n1 : NoAttr K CB "issuer"
  n2 : NoAttr K CB "units"
  n3 : NoAttr K CB "face"
  n4 : NoAttr K CB "cross"
  n5 : NoAttr K CB "first_day"
  n6 : NoAttr K CB "last_day"
  n7 : NoAttr K CB "months"
  n8 : NoAttr K CB "count"
  n9 : NoAttr K CB "adjust"
  n10 : NoAttr K CB "record"
  n11 : NoAttr K CB "rank"
  n12 : NoAttr K CB "lets"
  n13 : NoAttr K CB "coupon"
  n14 : NoAttr K CB "promises"
  n15 : NoAttr K CB "calls"
theorem sched_ex {s e m : Int} (hm : 1 ≤ m) (he : s < e) : ∃ T, SchedOk s e m T := by
  have key : ∀ n : Nat, (∃ T, SchedOk s e m T) ∨ ∀ t : Nat, t < n → lat s (m * (t : Int)) < e := by
    intro n
    induction n with
    | zero => exact .inr fun t h => absurd h (Nat.not_lt_zero _)
    | succ n ih =>
      rcases ih with ih | ih
      · exact .inl ih
      · by_cases c : lat s (m * (n : Int)) < e
        · refine .inr fun t h => ?_
          rcases Nat.lt_or_ge t n with q | q
          · exact ih t q
          · have : t = n := by omega
            rw [this]; exact c
        · exact .inl ⟨n, ih, by omega⟩
  rcases key ((e - s).toNat + 1) with h | h
  · exact h
  · have h1 := h (e - s).toNat (by omega)
    have h2 := lat_ge (s := s) hm (e - s).toNat
    omega
noncomputable def tOf (s e m : Int) : Nat := by
  classical exact if h : ∃ T, SchedOk s e m T then Classical.choose h else 0
theorem tOf_eq {s e m : Int} {T : Nat} (h : SchedOk s e m T) : tOf s e m = T := by
  unfold tOf
  rw [dif_pos ⟨T, h⟩]
  exact (Classical.choose_spec (p := fun T => SchedOk s e m T) ⟨T, h⟩).unique h
theorem Bo.sch {b : B9} (h : Bo b) : SchedOk b.first b.last b.months (tOf b.first b.last b.months) := by
  obtain ⟨T, hT⟩ := sched_ex h.m1 h.l0
  rw [tOf_eq hT]
  exact hT
noncomputable def nB (b : B9) : Nat := tOf b.first b.last b.months
noncomputable def dB (b : B9) (j : Nat) : Int := sday b.first b.last b.months (nB b) j
def mx (a b : Int) : Int := if b > a then b else a
noncomputable def rowB (b : B9) (j : Nat) : I3 := (dB b j, dB b (j + 1), mx (dB b j) (adj (dB b (j + 1)) b.adjust))
noncomputable def rowsB (b : B9) : List I3 := (List.range (nB b)).map (rowB b)
theorem adj_near {d : Int} {w : Str} : d - 7 ≤ adj d w ∧ adj d w ≤ d + 7 := by
  by_cases c : d % 7 ≤ 4 ∨ w = "none"
  · rw [adj_same c]; omega
  · rcases adj_cases c with e | e <;> rw [e] <;> omega
structure RowOk (b : B9) (r : I3) : Prop where
  a0 : 0 ≤ r.1
  ab : r.1 < r.2.1
  b1 : r.2.1 ≤ 2000
  p0 : r.1 ≤ r.2.2
  p1 : r.2.2 ≤ 2010
section
variable {b : B9}
theorem Bo.n1 (h : Bo b) : 1 ≤ nB b ∧ nB b ≤ 1000 := by
  have := h.sch.bd h.m1 h.l0
  have := h.l1
  unfold nB
  omega
theorem Bo.row (h : Bo b) {j : Nat} (hj : j < nB b) : RowOk b (rowB b j) := by
  have h1 := sched_up h.sch h.m1 hj
  have h2 := sday_le (j := j + 1) h.sch
  have h3 := sday_nn (s := b.first) (e := b.last) (m := b.months) (T := nB b) (j := j) h.f0 (by have := h.f0; have := h.l0; omega) h.m1
  have h4 := adj_near (d := dB b (j + 1)) (w := b.adjust)
  have f1 := h.f1
  have l1 := h.l1
  have e2 : dB b (j + 1) ≤ b.last := h2
  have e3 : 0 ≤ dB b j := h3
  have e1 : dB b j < dB b (j + 1) := h1
  refine ⟨e3, e1, by show dB b (j + 1) ≤ 2000; omega, ?_, ?_⟩
  · show dB b j ≤ mx (dB b j) (adj (dB b (j + 1)) b.adjust)
    unfold mx
    split <;> omega
  · show mx (dB b j) (adj (dB b (j + 1)) b.adjust) ≤ 2010
    unfold mx
    split <;> omega
theorem Bo.rows (h : Bo b) {r : I3} (m : r ∈ rowsB b) : RowOk b r := by
  obtain ⟨j, hj, rfl⟩ := List.mem_map.mp m
  exact h.row (List.mem_range.mp hj)
theorem rows_len : (rowsB b).length = nB b := by unfold rowsB; rw [List.length_map, List.length_range]
theorem Bo.rlen (h : Bo b) : (rowsB b).length < 2000 := by
  rw [rows_len]
  have := h.n1
  omega
end
theorem rows_pers {b : B9} : (pers b.first b.last b.months b.adjust (nB b)).map (fun r => ((r.1, r.2.1, mx r.1 r.2.2) : I3)) = rowsB b := by
  unfold pers rowsB
  rw [List.map_map]
  rfl
abbrev spRows (K : PySem.W.Frag) (CB : Addr) : Sp := spP (fun b : B9 => [(tB9 K CB).is b]) (tLs K (tI3 K)) Bo rowsB
abbrev spPays (K : PySem.W.Frag) (CB : Addr) : Sp := spP (fun b : B9 => [(tB9 K CB).is b]) (tLs K tInt) Bo (fun b => (rowsB b).map fun r => r.2.2)
abbrev sPaidP : Stmt := topS 45
theorem scPaidP : FnScope ["bond", "found", "start", "end", "pay_day"] ["bond"] (defScope sPaidP) := ⟨rfl, rfl, rfl, by decide +kernel, rfl, by decide +kernel, by decide +kernel⟩
theorem ok_paidp {f CB : Addr} {fd : FuncData} {k : Nat} (F : Fun K "_paid_periods" "_paid_periods" sPaidP f fd) (BC : BondC K CB) (c_periods : Cal P w K mg base k "periods" ["start", "end", "months", "word"] (spPerT K)) (z_max : mg "max" = none) : FnOk P w K mg base CX0 (k + 1) f fd ["bond"] (spRows K CB) := by
  refine ok_P F scPaidP (fun _ => rfl) fun cdv A outer s H0 S b Q E hr hp out => ⟨_, (pss_cons (ps_set (i := 1) scPaidP.nd rfl (Or.inl rfl) (pe_cal c_periods hr (by rfl) (pa_cons (pe_fld (pv 0) rfl) (pa_cons (pe_fld (pv 0) rfl) (pa_cons (pe_fld (pv 0) rfl) (pa_cons (pe_fld (pv 0) rfl) pa_nil))))))
      (pss_one (ps_ret (pe_lc (own := [("start", 2), ("end", 3), ("pay_day", 4)]) (g := gTup K 3 (gCons (gName 2) (gCons (gName 3) (gCons (gName 4) gNil)))) (tt := tYes) rfl scPaidP.nd (pi_list (pv 1)) (blkOk_by (own := [("start", 2), ("end", 3), ("pay_day", 4)]) (N := ["bond", "found", "start", "end", "pay_day"]) (sc := defScope sPaidP) (by decide +kernel)) (fun _ _ _ _ _ => (pg_tup rfl (pgs_cons (pg_name (i := 2) scPaidP.nd rfl (Or.inl rfl)) (pgs_cons (pg_name (i := 3) scPaidP.nd rfl (Or.inl rfl)) (pgs_cons (pg_name (i := 4) scPaidP.nd rfl (Or.inl rfl)) pgs_nil))))) (fun _ _ _ _ _ => pts_nil) (fun _ _ _ _ _ => (pe_tup (pa_cons (pv 2) (pa_cons (pv 3) (pa_cons (pe_callB (call_max2 rfl) (by rfl) z_max (by decide +kernel) (pa_cons (pv 2) (pa_cons (pv 4) pa_nil))) pa_nil))))))))), ?_⟩
  have hp : Bo b := hp
  have big : (2000 : Nat) ≤ sizeLine := by decide
  refine go_setx (evx_call (z := ((b.first, b.last, b.months), b.adjust)) (ea_cons (ev_fld 1 (ev_var rfl) BC.cl BC.n5) (ea_cons (ev_fld 2 (ev_var rfl) BC.cl BC.n6) (ea_cons (ev_fld 3 (ev_var rfl) BC.cl BC.n7) (ea_cons (ev_fld 5 (ev_var rfl) BC.cl BC.n9) ea_nil)))) ⟨⟨hp.f0, hp.l0, by show b.last ≤ b.first + 2000; have := hp.l1; omega, hp.m1⟩, hp.ad⟩) fun ys hys => ?_
  obtain ⟨T, hT, rfl⟩ := hys
  have eT : nB b = T := tOf_eq hT
  refine go_end (y := rowsB b) (ev_is (ev_lcm (K := K) (f := fun r : I3 => ((r.1, r.2.1, mx r.1 r.2.2) : I3)) (iv_list (ev_var rfl)) tgt_three (by simp) ?_ (fun D φ F r hF hm => ev_t3 (ev_var rfl) (ev_var rfl) (ev_max (ev_var rfl) (ev_var rfl)))) (by rw [← eT]; exact rows_pers)) out
  unfold pers
  rw [List.length_map, List.length_range, ← eT]
  exact Nat.lt_of_lt_of_le (show nB b < 2000 by have := hp.n1; omega) big
abbrev sPayD : Stmt := topS 41
theorem scPayD : FnScope ["bond", "period"] ["bond"] (defScope sPayD) := ⟨rfl, rfl, rfl, by decide +kernel, rfl, by decide +kernel, by decide +kernel⟩
theorem ok_payd {f CB : Addr} {fd : FuncData} {k : Nat} (F : Fun K "pay_days" "pay_days" sPayD f fd) (c_paid_periods : Cal P w K mg base k "_paid_periods" ["bond"] (spRows K CB)) : FnOk P w K mg base CX0 (k + 1) f fd ["bond"] (spPays K CB) := by
  refine ok_P F scPayD (fun _ => rfl) fun cdv A outer s H0 S b Q E hr hp out => ⟨_, (pss_one (ps_ret (pe_lc (own := [("period", 1)]) (g := gName 1) (tt := tYes) rfl scPayD.nd (pi_list (pe_cal c_paid_periods hr (by rfl) (pa_cons (pv 0) pa_nil))) (blkOk_by (own := [("period", 1)]) (N := ["bond", "period"]) (sc := defScope sPayD) (by decide +kernel)) (fun _ _ _ _ _ => (pg_name (i := 1) scPayD.nd rfl (Or.inl rfl))) (fun _ _ _ _ _ => pts_nil) (fun _ _ _ _ _ => (pe_ix (ix_tupK (K := K) rfl) (pv 1) pe_int (fun _ _ => rfl)))))), ?_⟩
  have hp : Bo b := hp
  have big : (2000 : Nat) ≤ sizeLine := by decide
  exact go_end (y := (rowsB b).map fun r => r.2.2) (ev_lcm (K := K) (f := fun r : I3 => r.2.2) (iv_list (ev_call (z := b) (ea_cons (ev_var rfl) ea_nil) hp)) tgt_name (by simp) (Nat.lt_of_lt_of_le hp.rlen big) (fun D φ F r hF hm => ev_item (n := 2) (ev_var rfl) rfl)) out
/-! ### interests by the rates -/
noncomputable def itU (b : B9) (m : Mp Rat) (s u : Int) : Rat := b.face * (m s).getD 0 * prt b.count s u
def RtOk (b : B9) (m : Mp Rat) : Prop := ∀ r ∈ rowsB b, ∃ x, m r.1 = some x ∧ Rq x
structure UA where
  b : B9
  m : Mp Rat
  s : Int
  u : Int
theorem itU_q {b : B9} {m : Mp Rat} {s u : Int} (hb : Bo b) (h : ∃ x, m s = some x ∧ Rq x) (h0 : 0 ≤ s) (h1 : s ≤ 10000) (h2 : 0 ≤ u) (h3 : u ≤ 10000) : Bq 1 (itU b m s u) := by
  obtain ⟨x, e, q⟩ := h
  unfold itU
  rw [e]
  exact int_q hb.fc q h0 h1 h2 h3
abbrev spUnt (K : PySem.W.Frag) (CB : Addr) : Sp := spP (fun x : UA => [(tB9 K CB).is x.b, tInt.is x.s, tInt.is x.u, (tMp (tFr K)).is x.m]) (tFr K) (fun x => Bo x.b ∧ (∃ r, x.m x.s = some r ∧ Rq r) ∧ 0 ≤ x.s ∧ x.s ≤ x.u ∧ x.u ≤ 10000) (fun x => itU x.b x.m x.s x.u)
abbrev sUntil : Stmt := topS 47
theorem scUntil : FnScope ["bond", "start", "until", "period_rates"] ["bond", "start", "until", "period_rates"] (defScope sUntil) := ⟨rfl, rfl, rfl, by decide +kernel, rfl, by decide +kernel, by decide +kernel⟩
theorem ok_until {f CB : Addr} {fd : FuncData} {k : Nat} (F : Fun K "_interest_until" "_interest_until" sUntil f fd) (BC : BondC K CB) (c_interest : Cal P w K mg base k "interest" ["principal", "rate", "count", "start", "end"] (spIntT K)) : FnOk P w K mg base CX0 (k + 1) f fd ["bond", "start", "until", "period_rates"] (spUnt K CB) := by
  refine ok_P F scUntil (fun _ => rfl) fun cdv A outer s H0 S x Q E hr hp out => ?_
  have hu := hu_of hr
  refine ⟨_, (pss_cons (ps_if (pt_cmp (pc_dnotin hu (pv 1) (pv 3))) (pss_one ps_never) pss_nil)
      (pss_one (ps_ret (pe_cal c_interest hr (by rfl) (pa_cons (pe_fld (pv 0) rfl) (pa_cons (pe_dget hu (pv 3) (pv 1) (fun _ _ => rfl)) (pa_cons (pe_fld (pv 0) rfl) (pa_cons (pv 1) (pa_cons (pv 2) pa_nil))))))))), ?_⟩
  obtain ⟨hb, ⟨r, er, hq⟩, s0, su, u1⟩ := hp
  refine go_ifr (et_is (et_mpNot (ev_var rfl) (ev_var rfl)) (by rw [er])) (fun h => by cases h) (fun _ => ?_)
  refine go_end (y := itU x.b x.m x.s x.u) (ev_is (ev_call (z := InA.mk x.b.face r x.b.count x.s x.u) (ea_cons (ev_fld 0 (ev_var rfl) BC.cl BC.n3) (ea_cons (ev_mpGet (ev_var rfl) (ev_var rfl) er) (ea_cons (ev_fld 4 (ev_var rfl) BC.cl BC.n8) (ea_cons (ev_var rfl) (ea_cons (ev_var rfl) ea_nil))))) ⟨hb.fc.sz, hq.sz, hb.ct, s0, su, u1⟩) ?_) out
  show x.b.face * r * prt x.b.count x.s x.u = itU x.b x.m x.s x.u
  unfold itU
  rw [er]
  rfl
structure DA where
  b : B9
  d : Int
  m : Mp Rat
abbrev Pq (x : DA) : Prop := Bo x.b ∧ RtOk x.b x.m
noncomputable def paidOn (x : DA) : List I3 := (rowsB x.b).filter fun r => decide (r.2.2 = x.d)
noncomputable def cpL (x : DA) : List Rat := (paidOn x).map fun r => itU x.b x.m r.1 r.2.1
noncomputable def cpV (x : DA) : List (Str × Rat) := if (cpL x).isEmpty = true then [] else [("coupon", rsum (cpL x))]
noncomputable def runOn (x : DA) : List I3 := (rowsB x.b).filter fun r => decide (r.1 < x.d) && decide (x.d < r.2.2)
def mnI (i j : Int) : Int := if j < i then j else i
noncomputable def acV (x : DA) : Rat := rsum ((runOn x).map fun r => itU x.b x.m r.1 (mnI r.2.1 x.d))
abbrev dargs (K : PySem.W.Frag) (CB : Addr) (x : DA) : List SF := [(tB9 K CB).is x.b, tInt.is x.d, (tMp (tFr K)).is x.m]
abbrev spCoup (K : PySem.W.Frag) (CB : Addr) : Sp := fun vs H Q E => spN (fun _ : DA => []) (dargs K CB) (tN2 H (tPr K tSt (tFr K))) Pq (fun x y => y = cpV x) vs H Q E
abbrev spAcc (K : PySem.W.Frag) (CB : Addr) : Sp := spP (dargs K CB) (tFr K) Pq acV
theorem ev_lt2 {W : Wd} {ta tb tc : TE} {i j k : Int} (ha : Ev W ta tInt i) (hb : Ev W tb tInt j) (hc : Ev W tc tInt k) : Et W (tTest (tChain (rI0 fun i j => .bl (decide (i < j))) (rI0 fun i j => .bl (decide (i < j))) ta tb tc)) (decide (i < j) && decide (j < k)) := fun σ H o Q q =>
  ha σ H o _ fun v H1 g1 r1 => hb σ H1 g1.ok _ fun v2 H2 g2 r2 => ⟨i, j, r1, r2, _, rfl, by
    cases h : decide (i < j) with
    | true =>
      rw [h] at q
      exact hc σ H2 g2.ok _ fun v3 H3 g3 r3 => ⟨j, k, r2, r3, _, rfl, q H3 ((g1.trans g2).trans g3)⟩
    | false =>
      rw [h] at q
      exact ⟨_, rfl, q H2 (g1.trans g2)⟩⟩
abbrev sAccrued : Stmt := topS 42
theorem scAccrued : FnScope ["bond", "day", "period_rates", "running", "period", "start", "end", "_"] ["bond", "day", "period_rates"] (defScope sAccrued) := ⟨rfl, rfl, rfl, by decide +kernel, rfl, by decide +kernel, by decide +kernel⟩
theorem ok_accrued {f CB : Addr} {fd : FuncData} {k : Nat} (F : Fun K "accrued" "accrued" sAccrued f fd) (c_paid_periods : Cal P w K mg base k "_paid_periods" ["bond"] (spRows K CB)) (c_interest_until : Cal P w K mg base k "_interest_until" ["bond", "start", "until", "period_rates"] (spUnt K CB)) (c_total : Cal P w K mg base k "total" ["values"] (spTotT K)) (z_min : mg "min" = none) : FnOk P w K mg base CX0 (k + 1) f fd ["bond", "day", "period_rates"] (spAcc K CB) := by
  refine ok_P F scAccrued (fun _ => rfl) fun cdv A outer s H0 S x Q E hr hp out => ⟨_, (pss_cons (ps_setLc (i := 3) (own := [("period", 4)]) (g := gName 4)  rfl scAccrued.nd rfl rfl (sw_true rfl rfl rfl (by decide +kernel)) (pi_list (pe_cal c_paid_periods hr (by rfl) (pa_cons (pv 0) pa_nil))) (blkOk_by (own := [("period", 4)]) (N := ["bond", "day", "period_rates", "running", "period", "start", "end", "_"]) (sc := defScope sAccrued) (by decide +kernel)) (fun _ _ _ _ _ => (pg_name (i := 4) scAccrued.nd rfl (Or.inl rfl))) (fun _ _ _ _ _ => (pts_one (pt_chain op_lt op_lt (pe_ix (ix_tupK (K := K) rfl) (pv 4) pe_int (fun _ _ => rfl)) (pv 1) (pe_ix (ix_tupK (K := K) rfl) (pv 4) pe_int (fun _ _ => rfl))))) (fun _ _ _ _ _ => (pv 4)))
      (pss_one (ps_ret (pe_cal c_total hr (by rfl) (pa_cons (pe_lc (own := [("start", 5), ("end", 6), ("_", 7)]) (g := gTup K 3 (gCons (gName 5) (gCons (gName 6) (gCons (gName 7) gNil)))) (tt := tYes) rfl scAccrued.nd (pi_list (pv 3)) (blkOk_by (own := [("start", 5), ("end", 6), ("_", 7)]) (N := ["bond", "day", "period_rates", "running", "period", "start", "end", "_"]) (sc := defScope sAccrued) (by decide +kernel)) (fun _ _ _ _ _ => (pg_tup rfl (pgs_cons (pg_name (i := 5) scAccrued.nd rfl (Or.inl rfl)) (pgs_cons (pg_name (i := 6) scAccrued.nd rfl (Or.inl rfl)) (pgs_cons (pg_name (i := 7) scAccrued.nd rfl (Or.inl rfl)) pgs_nil))))) (fun _ _ _ _ _ => pts_nil) (fun _ _ _ _ _ => (pe_cal c_interest_until hr (by rfl) (pa_cons (pv 0) (pa_cons (pv 5) (pa_cons (pe_callB (call_min2 rfl) (by rfl) z_min (by decide +kernel) (pa_cons (pv 6) (pa_cons (pv 1) pa_nil))) (pa_cons (pv 2) pa_nil))))))) pa_nil))))), ?_⟩
  obtain ⟨hb, hm⟩ := hp
  have big : (2000 : Nat) ≤ sizeLine := by decide
  have rl := hb.rlen
  refine go_set (x := runOn x) (ev_is (ev_lcf (K := K) (p := fun r : I3 => decide (r.1 < x.d) && decide (x.d < r.2.2)) (f := fun r => r) (iv_list (ev_call (z := x.b) (ea_cons (ev_var rfl) ea_nil) hb)) tgt_name (by simp) (Nat.lt_of_lt_of_le rl big) (fun D φ F r hF hx => ev_lt2 (ev_item (n := 0) (ev_var rfl) rfl) (ev_var rfl) (ev_item (n := 2) (ev_var rfl) rfl)) (fun D φ F r hF hx _ => ev_var rfl)) (List.map_id' _)) ?_
  have sub : ∀ r ∈ runOn x, r ∈ rowsB x.b ∧ r.1 < x.d := fun r m => by
    obtain ⟨m1, m2⟩ := List.mem_filter.mp m
    rw [Bool.and_eq_true, decide_eq_true_eq, decide_eq_true_eq] at m2
    exact ⟨m1, m2.1⟩
  have len : (runOn x).length < 2000 := Nat.lt_of_le_of_lt (List.length_filter_le _ _) rl
  have fit : ∀ r ∈ runOn x, (0 ≤ r.1 ∧ r.1 ≤ mnI r.2.1 x.d ∧ mnI r.2.1 x.d ≤ 10000) := fun r m => by
    obtain ⟨m1, m2⟩ := sub r m
    have ro := hb.rows m1
    have := ro.a0
    have := ro.ab
    have := ro.b1
    unfold mnI
    split <;> omega
  refine go_end (y := acV x) (ev_call (z := (runOn x).map fun r => itU x.b x.m r.1 (mnI r.2.1 x.d)) (ea_cons (ev_lcm (K := K) (f := fun r : I3 => itU x.b x.m r.1 (mnI r.2.1 x.d)) (iv_list (ev_var rfl)) tgt_three (by simp) (Nat.lt_of_lt_of_le len big) (fun D φ F r hF hx => ev_call (z := UA.mk x.b x.m r.1 (mnI r.2.1 x.d)) (ea_cons (ev_var rfl) (ea_cons (ev_var rfl) (ea_cons (ev_min (ev_var rfl) (ev_var rfl)) (ea_cons (ev_var rfl) ea_nil)))) ⟨hb, hm r (sub r hx).1, (fit r hx).1, (fit r hx).2.1, (fit r hx).2.2⟩)) ea_nil) ⟨fun q m => ?_, ?_⟩) out
  · obtain ⟨r, hr, rfl⟩ := List.mem_map.mp m
    have f1 := fit r hr
    exact itU_q hb (hm r (sub r hr).1) f1.1 (by omega) (by omega) f1.2.2
  · rw [List.length_map]
    have : (runOn x).length ≤ nB x.b := by
      rw [← rows_len]; exact List.length_filter_le _ _
    have := hb.n1
    omega
abbrev sCoup : Stmt := topS 46
theorem scCoup : FnScope ["bond", "day", "period_rates", "paid", "coupons", "period", "start", "end", "_"] ["bond", "day", "period_rates"] (defScope sCoup) := ⟨rfl, rfl, rfl, by decide +kernel, rfl, by decide +kernel, by decide +kernel⟩
theorem ok_coup {f CB : Addr} {fd : FuncData} {k : Nat} (F : Fun K "_coupons" "_coupons" sCoup f fd) (c_paid_periods : Cal P w K mg base k "_paid_periods" ["bond"] (spRows K CB)) (c_interest_until : Cal P w K mg base k "_interest_until" ["bond", "start", "until", "period_rates"] (spUnt K CB)) (c_total : Cal P w K mg base k "total" ["values"] (spTotT K)) : FnOk P w K mg base CX0 (k + 1) f fd ["bond", "day", "period_rates"] (spCoup K CB) := by
  refine ok_NH F scCoup (fun _ => rfl) fun cdv A outer s H0 S x Q E hr hp out => ⟨_, (pss_cons (ps_setLc (i := 3) (own := [("period", 5)]) (g := gName 5)  rfl scCoup.nd rfl rfl (sw_true rfl rfl rfl (by decide +kernel)) (pi_list (pe_cal c_paid_periods hr (by rfl) (pa_cons (pv 0) pa_nil))) (blkOk_by (own := [("period", 5)]) (N := ["bond", "day", "period_rates", "paid", "coupons", "period", "start", "end", "_"]) (sc := defScope sCoup) (by decide +kernel)) (fun _ _ _ _ _ => (pg_name (i := 5) scCoup.nd rfl (Or.inl rfl))) (fun _ _ _ _ _ => (pts_one (pt_cmpR op_eq (pe_ix (ix_tupK (K := K) rfl) (pv 5) pe_int (fun _ _ => rfl)) (pv 1) (nomark _)))) (fun _ _ _ _ _ => (pv 5)))
      (pss_cons (ps_setLc (i := 4) (own := [("start", 6), ("end", 7), ("_", 8)]) (g := gTup K 3 (gCons (gName 6) (gCons (gName 7) (gCons (gName 8) gNil)))) (tt := tYes) rfl scCoup.nd rfl rfl (sw_true rfl rfl rfl (by decide +kernel)) (pi_list (pv 3)) (blkOk_by (own := [("start", 6), ("end", 7), ("_", 8)]) (N := ["bond", "day", "period_rates", "paid", "coupons", "period", "start", "end", "_"]) (sc := defScope sCoup) (by decide +kernel)) (fun _ _ _ _ _ => (pg_tup rfl (pgs_cons (pg_name (i := 6) scCoup.nd rfl (Or.inl rfl)) (pgs_cons (pg_name (i := 7) scCoup.nd rfl (Or.inl rfl)) (pgs_cons (pg_name (i := 8) scCoup.nd rfl (Or.inl rfl)) pgs_nil))))) (fun _ _ _ _ _ => pts_nil) (fun _ _ _ _ _ => (pe_cal c_interest_until hr (by rfl) (pa_cons (pv 0) (pa_cons (pv 6) (pa_cons (pv 7) (pa_cons (pv 2) pa_nil)))))))
      (pss_one (ps_ret (pe_ifExp (pt_truth (pv 4) (fun _ => rfl)) (pe_lst (pa_cons (pe_tup (pa_cons pe_str (pa_cons (pe_cal c_total hr (by rfl) (pa_cons (pv 4) pa_nil)) pa_nil))) pa_nil)) (pe_lst pa_nil)))))), ?_⟩
  obtain ⟨hb, hm⟩ := hp
  have big : (2000 : Nat) ≤ sizeLine := by decide
  have rl := hb.rlen
  refine go_set (x := paidOn x) (ev_is (ev_lcf (K := K) (p := fun r : I3 => decide (r.2.2 = x.d)) (f := fun r => r) (iv_list (ev_call (z := x.b) (ea_cons (ev_var rfl) ea_nil) hb)) tgt_name (by simp) (Nat.lt_of_lt_of_le rl big) (fun D φ F r hF hx => et_of (ev_eqI (ev_item (n := 2) (ev_var rfl) rfl) (ev_var rfl))) (fun D φ F r hF hx _ => ev_var rfl)) (List.map_id' _)) ?_
  have sub : ∀ r ∈ paidOn x, r ∈ rowsB x.b := fun r m => (List.mem_filter.mp m).1
  have len : (paidOn x).length < 2000 := Nat.lt_of_le_of_lt (List.length_filter_le _ _) rl
  refine go_set (x := cpL x) (ev_lcm (K := K) (f := fun r : I3 => itU x.b x.m r.1 r.2.1) (iv_list (ev_var rfl)) tgt_three (by simp) (Nat.lt_of_lt_of_le len big) (fun D φ F r hF hx => ev_call (z := UA.mk x.b x.m r.1 r.2.1) (ea_cons (ev_var rfl) (ea_cons (ev_var rfl) (ea_cons (ev_var rfl) (ea_cons (ev_var rfl) ea_nil)))) ⟨hb, hm r (sub r hx), (hb.rows (sub r hx)).a0, Int.le_of_lt (hb.rows (sub r hx)).ab, by have := (hb.rows (sub r hx)).b1; show r.2.1 ≤ 10000; omega⟩)) ?_
  refine go_end (y := cpV x) (ev_if (b := !(cpL x).isEmpty) (et_tru (ev_var rfl)) (fun h => ev_is (ev_lstN2 (el_cons (ev_pr (K := K) ev_str (ev_call (z := cpL x) (ea_cons (ev_var rfl) ea_nil) ⟨fun q m => ?_, ?_⟩)) el_nil) (by show 1 ≤ sizeLine; decide)) ?_) (fun h => ev_is (ev_lstN2 el_nil (by show 0 ≤ sizeLine; decide)) ?_)) out rfl
  · obtain ⟨r, hr, rfl⟩ := List.mem_map.mp m
    have ro := hb.rows (sub r hr)
    have := ro.a0
    have := ro.ab
    have := ro.b1
    exact itU_q hb (hm r (sub r hr)) ro.a0 (by omega) (by omega) (by omega)
  · unfold cpL
    rw [List.length_map]
    have : (paidOn x).length ≤ nB x.b := by
      rw [← rows_len]; exact List.length_filter_le _ _
    have := hb.n1
    omega
  · unfold cpV
    rw [if_neg (by rw [Bool.not_eq_true'] at h; rw [h]; decide)]
  · unfold cpV
    rw [if_pos (by rw [Bool.not_eq_false'] at h; exact h)]
end
end Cs
set_option maxHeartbeats 4000000
namespace Cs
open PySem PySem.Spec PyProof.Rows L2
local macro_rules | `(tactic| walk_at "rd") => `(tactic| (first
  | (refine ⟨_, rfl, ?_⟩)
  | (refine ⟨_, _, rfl, rfl, ?_⟩)
  | (refine .inl ⟨_, rfl, ?_⟩)
  | (refine .inr ⟨_, rfl, ?_⟩)
  | (refine ⟨_, _, _, _, rfl, rfl, SqL.of upd_same, rfl, ?_⟩)
  | (refine ⟨_, _, _, _, rfl, rfl, upd_same, rfl, ?_⟩)
  | (refine ⟨_, ?xs, _, ?v, rfl, rfl, ?h, ?x, ?_⟩; (case h => first | exact SqL.of (by assumption) | exact SqT.of (by assumption) | assumption); (case x => first | rfl | exact atI_nat (j := 0) rfl | exact atI_nat (j := 1) rfl))))
local macro_rules | `(tactic| walk_at "isi") => `(tactic| (first
  | (refine ⟨_, _, _, _, _, rfl, .ty _, .base (.int _), kit_ty kit_it, ?_⟩)
  | (refine ⟨_, _, _, _, _, rfl, .ty _, .base (.int _), kit_ty kit_ib, ?_⟩)
  | (refine ⟨_, _, _, _, _, rfl, .ty _, .base (.int _), kit_ty kit_ii, ?_⟩)
  | (refine ⟨_, _, _, _, _, rfl, .ty _, .base (.bl _), kit_ty kit_bt, ?_⟩)
  | (refine ⟨_, _, _, _, _, rfl, .ty _, .base (.bl _), kit_ty kit_bb, ?_⟩)
  | (refine ⟨_, _, _, _, _, rfl, .ty _, .base (.bl _), kit_ty kit_bi, ?_⟩)))
local macro_rules | `(tactic| walk_at "ev") => `(tactic| (first
  | exact ev_var rfl
  | exact ev_int
  | exact ev_str
  | exact ev_bl
  | exact ev_non
  | (refine ev_add ?_ ?_ <;> walk_at "ev")
  | (refine ev_sub ?_ ?_ <;> walk_at "ev")
  | (refine ev_mul ?_ ?_ ?_ <;> (try walk_at "ev"))
  | (refine ev_neg ?_ <;> walk_at "ev")
  | (refine ev_num ?_ <;> walk_at "ev")
  | (refine ev_den ?_ <;> walk_at "ev")
  | (refine ev_cmp ?_ ?_ <;> walk_at "ev")
  | (refine ev_eqI ?_ ?_ <;> walk_at "ev")
  | (refine ev_eqS ?_ ?_ <;> walk_at "ev")
  | (refine ev_neI ?_ ?_ <;> walk_at "ev")
  | (refine ev_neS ?_ ?_ <;> walk_at "ev")
  | (refine ev_inS ?_ ?_ <;> walk_at "ev")
  | (refine ev_niS ?_ ?_ <;> walk_at "ev")
  | (refine ev_len ?_ <;> walk_at "ev")
  | (refine ev_list ?_ <;> walk_at "ev")
  | (refine ev_listRev ?_ <;> walk_at "ev")
  | (refine ev_int1 ?_ <;> walk_at "ev")))
local macro_rules | `(tactic| walk_at "ea") => `(tactic| (first
  | exact ea_nil
  | (refine ea_cons ?_ ?_ <;> (first | walk_at "ev" | walk_at "ea" | skip))))
local macro_rules | `(tactic| walk_at "sb") => `(tactic| (first | exact True.intro | (refine And.intro rfl ?_; walk_at "sb")))
local macro_rules | `(tactic| walk_at "subt") => `(tactic| repeat (first | exact List.nil_sublist _ | apply List.Sublist.cons₂ | apply List.Sublist.cons))
section
variable {P : Program} {w : World} {K : PySem.W.Frag} {mg : Str → Option Value} {base : Heap}
/-! ### what falls due -/
theorem atI_last {α : Type} {xs : List α} {x : α} {n : Nat} (hn : xs.length = n + 1) (h : xs[n]? = some x) : atI xs (-1) = some x := by
  unfold atI ixN
  rw [hn, if_neg (by decide), if_pos (by omega)]
  show xs[((-1 : Int) + ((n + 1 : Nat) : Int)).toNat]? = some x
  rw [show ((-1 : Int) + ((n + 1 : Nat) : Int)).toNat = n by omega]
  exact h
noncomputable def lastP (b : B9) : Int := (rowB b (nB b - 1)).2.2
theorem lastP_at {b : B9} (h : Bo b) : atI ((rowsB b).map fun r => r.2.2) (-1) = some (lastP b) := by
  have h1 := h.n1
  refine atI_last (n := nB b - 1) (by rw [List.length_map, rows_len]; omega) ?_
  rw [List.getElem?_map]
  unfold rowsB
  rw [List.getElem?_map, List.getElem?_range (by omega)]
  rfl
structure FA where
  x : DA
  ev : Option Str
noncomputable def midV (a : FA) : List (Str × Rat) := if a.ev = some ("default" : Str) then [("default", a.x.b.face)] else if a.x.d = lastP a.x.b then [("principal", a.x.b.face)] else []
noncomputable def finV (a : FA) : List (Str × Rat) := if a.ev.isSome = true then [("accrued", acV a.x)] else []
noncomputable def fdV (a : FA) : List (Str × Rat) := if a.x.d < a.x.b.first ∨ lastP a.x.b < a.x.d then [] else cpV a.x ++ midV a ++ finV a
theorem cp_len (x : DA) : (cpV x).length ≤ 1 := by
  unfold cpV
  split
  · exact Nat.zero_le _
  · show 1 ≤ 1; decide
theorem mid_len (a : FA) : (midV a).length ≤ 1 := by
  unfold midV
  split
  · show 1 ≤ 1; decide
  · split
    · show 1 ≤ 1; decide
    · decide
abbrev fargs (K : PySem.W.Frag) (CB : Addr) (a : FA) : List SF := [(tB9 K CB).is a.x.b, tInt.is a.x.d, (tMp (tFr K)).is a.x.m, (tOpt tSt).is a.ev]
abbrev spFalls (K : PySem.W.Frag) (CB : Addr) : Sp := spP (fargs K CB) (tLs K (tPr K tSt (tFr K))) (fun a => Pq a.x ∧ a.ev ≠ some ("call" : Str)) fdV
theorem ok_never {f : Addr} {fd : FuncData} {k : Nat} {ps : List Str} : FnOk P w K mg base CX0 k f fd ps (fun _ _ _ _ => False) := ⟨fun _ _ _ _ h => h.elim, fun _ _ _ _ _ _ _ _ _ _ _ _ _ h => h.elim⟩
abbrev sFalls : Stmt := topS 44
theorem scFalls : FnScope ["bond", "day", "period_rates", "event", "last_pay_day", "due"] ["bond", "day", "period_rates"] (defScope sFalls) := ⟨rfl, rfl, rfl, by decide +kernel, rfl, by decide +kernel, by decide +kernel⟩
theorem scFalls4 : FnScope ["bond", "day", "period_rates", "event", "last_pay_day", "due"] ["bond", "day", "period_rates", "event"] (defScope sFalls) := ⟨rfl, rfl, rfl, by decide +kernel, rfl, by decide +kernel, by decide +kernel⟩
theorem ok_falls {f CB : Addr} {fd : FuncData} {k : Nat} {dvs : List V} {kws : List (Str × V)} (F : FunD K "falls_due" "falls_due" (defArgs sFalls) (defBody sFalls) (defScope sFalls) dvs kws f fd) (BC : BondC K CB) (c_may_be_called : Cal P w K mg base k "may_be_called" ["bond", "day"] (fun _ _ _ _ => False)) (c_pay_days : Cal P w K mg base k "pay_days" ["bond"] (spPays K CB)) (c_coupons : Cal P w K mg base k "_coupons" ["bond", "day", "period_rates"] (spCoup K CB)) (c_accrued : Cal P w K mg base k "accrued" ["bond", "day", "period_rates"] (spAcc K CB)) : FnOk P w K mg base CX0 (k + 1) f fd ["bond", "day", "period_rates", "event"] (spFalls K CB) := by
  refine ok_ND F scFalls4 (fun _ => rfl) fun cdv A outer s H0 S a Q E hr hp out => ⟨_, (pss_cons (ps_if (PW.pt (pw_and (pt_cmpR op_eq (pv 3) pe_str (nomark _)) (pw_and1 (pt_not (pt_val (pe_cal c_may_be_called hr (by rfl) (pa_cons (pv 0) (pa_cons (pv 1) pa_nil)))))))) (pss_one ps_never) pss_nil)
      (pss_cons (ps_set (i := 4) scFalls.nd rfl (Or.inl rfl) (pe_ix ix_list (pe_cal c_pay_days hr (by rfl) (pa_cons (pv 0) pa_nil)) (pe_un un_neg pe_int) (fun _ _ => rfl)))
      (pss_cons (ps_if (PW.pt (pw_or (pt_cmpR op_lt (pv 1) (pe_fld (pv 0) rfl) (nomark _)) (pw_or1 (pt_cmpR op_gt (pv 1) (pv 4) (nomark _))))) (pss_one (ps_ret (pe_lst pa_nil))) pss_nil)
      (pss_cons (ps_set (i := 5) scFalls.nd rfl (Or.inl rfl) (pe_cal c_coupons hr (by rfl) (pa_cons (pv 0) (pa_cons (pv 1) (pa_cons (pv 2) pa_nil)))))
      (pss_cons (ps_if (pt_cmpR op_eq (pv 3) pe_str (nomark _)) pss_never (pss_one (ps_if (pt_cmpR op_eq (pv 3) pe_str (nomark _)) (pss_one (ps_expr (pe_bm PySem.F.plainAttrs_list PySem.F.slot_list_append PySem.F.type_list_append mt_append (pv 5) (pa_cons (pe_tup (pa_cons pe_str (pa_cons (pe_fld (pv 0) rfl) pa_nil))) pa_nil)))) (pss_one (ps_if (pt_cmpR op_eq (pv 1) (pv 4) (nomark _)) (pss_one (ps_expr (pe_bm PySem.F.plainAttrs_list PySem.F.slot_list_append PySem.F.type_list_append mt_append (pv 5) (pa_cons (pe_tup (pa_cons pe_str (pa_cons (pe_fld (pv 0) rfl) pa_nil))) pa_nil)))) pss_nil)))))
      (pss_cons (ps_if (pt_cmpR op_notN (pv 3) pe_non (nomark _)) (pss_one (ps_expr (pe_bm PySem.F.plainAttrs_list PySem.F.slot_list_append PySem.F.type_list_append mt_append (pv 5) (pa_cons (pe_tup (pa_cons pe_str (pa_cons (pe_cal c_accrued hr (by rfl) (pa_cons (pv 0) (pa_cons (pv 1) (pa_cons (pv 2) pa_nil)))) pa_nil))) pa_nil)))) pss_nil)
      (pss_one (ps_ret (pv 5))))))))), ?_⟩
  obtain ⟨⟨hb, hm⟩, hne⟩ := hp
  have hb : Bo a.x.b := hb
  have hne : a.ev ≠ some ("call" : Str) := hne
  have big : (2000 : Nat) ≤ sizeLine := by decide
  refine go_ms fun hMS => ?_
  refine go_ifr (et_and (b := decide (a.ev = some ("call" : Str))) (c := true) (et_eqO (ev_var rfl)) (fun h => absurd (of_decide_eq_true h) hne)) (fun h => ?_) (fun _ => ?_)
  · rw [Bool.and_true] at h
    exact absurd (of_decide_eq_true h) hne
  refine go_set (x := lastP a.x.b) (ev_ixL (ev_call (z := a.x.b) (ea_cons (ev_var rfl) ea_nil) hb) (ev_neg ev_int) (lastP_at hb)) ?_
  refine go_ifr (et_or (et_of (ev_cmp (ev_var rfl) (ev_fld 1 (ev_var rfl) BC.cl BC.n5))) fun _ => et_of (ev_cmp (ev_var rfl) (ev_var rfl))) (fun h => ?_) (fun h => ?_)
  · rw [Bool.or_eq_true, decide_eq_true_eq, decide_eq_true_eq] at h
    exact go_end (y := fdV a) (ev_is (ev_lst (K := K) el_nil (by show 0 ≤ sizeLine; decide)) (by unfold fdV; rw [if_pos h])) out
  rw [Bool.or_eq_false_iff, decide_eq_false_iff_not, decide_eq_false_iff_not] at h
  have hfd : fdV a = cpV a.x ++ midV a ++ finV a := by unfold fdV; rw [if_neg (fun q => q.elim h.1 h.2)]
  refine go_callN2 (z := a.x) (ea_cons (ev_var rfl) (ea_cons (ev_var rfl) (ea_cons (ev_var rfl) ea_nil))) ⟨hb, hm⟩ fun p xs hx np => ?_
  obtain rfl : xs = cpV a.x := hx
  have cl := cp_len a.x
  have ml := mid_len a
  refine go_ifj2 (fun (ys : List (Str × Rat)) => ⟨H0, [], p :: S, [cell p (cLs (tPr K tSt (tFr K)) ys)], [], [some ((tB9 K CB).is a.x.b), some (tInt.is a.x.d), some ((tMp (tFr K)).is a.x.m), some ((tOpt tSt).is a.ev), some (tInt.is (lastP a.x.b)), some (tRf.is p)]⟩) (fun ys => ys = cpV a.x ++ midV a) (Et.toX (P := fun b => b = decide (a.ev = some ("call" : Str))) (et_eqO (ev_var rfl)) rfl) (fun h => absurd (of_decide_eq_true h.symm) hne) (fun _ nx hnx => ?_) (fun ys hys => ?_)
  · refine go_if (et_eqO (ev_var rfl)) (fun h1 => ?_) (fun h1 => ?_)
    · refine go_app1 (p := p) (t := tPr K tSt (tFr K)) (xs := cpV a.x) (R := []) rfl (List.Perm.refl _) (ev_pr (K := K) ev_str (ev_fld 0 (ev_var rfl) BC.cl BC.n3)) (Nat.lt_of_lt_of_le (show (cpV a.x).length < 2000 by omega) big) fun σ H o => hnx _ ?_ σ H o
      unfold midV
      rw [if_pos (of_decide_eq_true h1)]
    · refine go_if (et_of (ev_eqI (ev_var rfl) (ev_var rfl))) (fun h2 => ?_) (fun h2 => ?_)
      · refine go_app1 (p := p) (t := tPr K tSt (tFr K)) (xs := cpV a.x) (R := []) rfl (List.Perm.refl _) (ev_pr (K := K) ev_str (ev_fld 0 (ev_var rfl) BC.cl BC.n3)) (Nat.lt_of_lt_of_le (show (cpV a.x).length < 2000 by omega) big) fun σ H o => hnx _ ?_ σ H o
        unfold midV
        rw [if_neg (of_decide_eq_false h1), if_pos (of_decide_eq_true h2)]
      · refine go_next fun σ H o => hnx (cpV a.x) ?_ σ H o
        unfold midV
        rw [if_neg (of_decide_eq_false h1), if_neg (of_decide_eq_false h2), List.append_nil]
  subst hys
  refine go_ifj (fun (ys : List (Str × Rat)) => ⟨H0, [], p :: S, [cell p (cLs (tPr K tSt (tFr K)) ys)], [], [some ((tB9 K CB).is a.x.b), some (tInt.is a.x.d), some ((tMp (tFr K)).is a.x.m), some ((tOpt tSt).is a.ev), some (tInt.is (lastP a.x.b)), some (tRf.is p)]⟩) (fun ys => ys = fdV a) (Et.toX (P := fun b => b = a.ev.isSome) (et_notN (ev_var rfl)) rfl) (fun h nx hnx => ?_) (fun h => ⟨cpV a.x ++ midV a, ?_, fun σ H o => o⟩) (fun ys hys => ?_)
  · refine go_app1 (p := p) (t := tPr K tSt (tFr K)) (xs := cpV a.x ++ midV a) (R := []) rfl (List.Perm.refl _) (ev_pr (K := K) ev_str (ev_call (z := a.x) (ea_cons (ev_var rfl) (ea_cons (ev_var rfl) (ea_cons (ev_var rfl) ea_nil))) ⟨hb, hm⟩)) (Nat.lt_of_lt_of_le (show (cpV a.x ++ midV a).length < 2000 by rw [List.length_append]; omega) big) fun σ H o => hnx _ ?_ σ H o
    rw [hfd]
    unfold finV
    rw [if_pos h.symm]
  · rw [hfd]
    unfold finV
    rw [if_neg (by rw [← h]; decide), List.append_nil]
  subst hys
  refine go_frz (K := K) (i := 5) rfl hMS np hMS ?_
  exact go_end (y := fdV a) (ev_var rfl) out
end
end Cs
set_option maxHeartbeats 4000000
namespace Cs
open PySem PySem.Spec PyProof.Rows L2
local macro_rules | `(tactic| walk_at "rd") => `(tactic| (first
  | (refine ⟨_, rfl, ?_⟩)
  | (refine ⟨_, _, rfl, rfl, ?_⟩)
  | (refine .inl ⟨_, rfl, ?_⟩)
  | (refine .inr ⟨_, rfl, ?_⟩)
  | (refine ⟨_, _, _, _, rfl, rfl, SqL.of upd_same, rfl, ?_⟩)
  | (refine ⟨_, _, _, _, rfl, rfl, upd_same, rfl, ?_⟩)
  | (refine ⟨_, ?xs, _, ?v, rfl, rfl, ?h, ?x, ?_⟩; (case h => first | exact SqL.of (by assumption) | exact SqT.of (by assumption) | assumption); (case x => first | rfl | exact atI_nat (j := 0) rfl | exact atI_nat (j := 1) rfl))))
local macro_rules | `(tactic| walk_at "isi") => `(tactic| (first
  | (refine ⟨_, _, _, _, _, rfl, .ty _, .base (.int _), kit_ty kit_it, ?_⟩)
  | (refine ⟨_, _, _, _, _, rfl, .ty _, .base (.int _), kit_ty kit_ib, ?_⟩)
  | (refine ⟨_, _, _, _, _, rfl, .ty _, .base (.int _), kit_ty kit_ii, ?_⟩)
  | (refine ⟨_, _, _, _, _, rfl, .ty _, .base (.bl _), kit_ty kit_bt, ?_⟩)
  | (refine ⟨_, _, _, _, _, rfl, .ty _, .base (.bl _), kit_ty kit_bb, ?_⟩)
  | (refine ⟨_, _, _, _, _, rfl, .ty _, .base (.bl _), kit_ty kit_bi, ?_⟩)))
local macro_rules | `(tactic| walk_at "ev") => `(tactic| (first
  | exact ev_var rfl
  | exact ev_int
  | exact ev_str
  | exact ev_bl
  | exact ev_non
  | (refine ev_add ?_ ?_ <;> walk_at "ev")
  | (refine ev_sub ?_ ?_ <;> walk_at "ev")
  | (refine ev_mul ?_ ?_ ?_ <;> (try walk_at "ev"))
  | (refine ev_neg ?_ <;> walk_at "ev")
  | (refine ev_num ?_ <;> walk_at "ev")
  | (refine ev_den ?_ <;> walk_at "ev")
  | (refine ev_cmp ?_ ?_ <;> walk_at "ev")
  | (refine ev_eqI ?_ ?_ <;> walk_at "ev")
  | (refine ev_eqS ?_ ?_ <;> walk_at "ev")
  | (refine ev_neI ?_ ?_ <;> walk_at "ev")
  | (refine ev_neS ?_ ?_ <;> walk_at "ev")
  | (refine ev_inS ?_ ?_ <;> walk_at "ev")
  | (refine ev_niS ?_ ?_ <;> walk_at "ev")
  | (refine ev_len ?_ <;> walk_at "ev")
  | (refine ev_list ?_ <;> walk_at "ev")
  | (refine ev_listRev ?_ <;> walk_at "ev")
  | (refine ev_int1 ?_ <;> walk_at "ev")))
local macro_rules | `(tactic| walk_at "ea") => `(tactic| (first
  | exact ea_nil
  | (refine ea_cons ?_ ?_ <;> (first | walk_at "ev" | walk_at "ea" | skip))))
local macro_rules | `(tactic| walk_at "sb") => `(tactic| (first | exact True.intro | (refine And.intro rfl ?_; walk_at "sb")))
local macro_rules | `(tactic| walk_at "subt") => `(tactic| repeat (first | exact List.nil_sublist _ | apply List.Sublist.cons₂ | apply List.Sublist.cons))
section
variable {P : Program} {w : World} {K : PySem.W.Frag} {mg : Str → Option Value} {base : Heap}
/-! ### the law's own dates and interests -/
abbrev P2 := Int × Int
theorem ev_raw {W : Wd} {ta : TE} {r : Rat} (h : Ev W ta (tFr K) r) : Ev W ta (tPr K tInt tInt) (r.num, (r.den : Int)) := ev_to h fun _ _ ⟨p, e, s⟩ => ⟨p, _, _, e, s, rfl, rfl⟩
structure P2Ok (a : P2) : Prop where
  q0 : a.2 ≠ 0
  p1 : a.1.natAbs < 2 ^ 1000
  q1 : a.2.natAbs < 2 ^ 1000
theorem p2_of {r : Rat} (h : Sz 1000 r) : P2Ok (r.num, (r.den : Int)) := ⟨den_ne r, h.nn, h.dd⟩
theorem p2_rat (r : Rat) : Rat.divInt (r.num, (r.den : Int)).1 (r.num, (r.den : Int)).2 = r := Rat.num_divInt_den r
theorem lt24 {i : Int} {a : Nat} (h : i.natAbs < 2 ^ a) (k : a ≤ 2400) : i.natAbs < 2 ^ 2400 := Nat.lt_of_lt_of_le h (Nat.pow_le_pow_right (by decide) k)
theorem add24 {i j : Int} (h : i.natAbs < 2 ^ 2000) (g : j.natAbs < 2 ^ 2000) : (i + j).natAbs < 2 ^ 2400 := by
  have h1 := Int.natAbs_add_le i j
  have h2 : (2 : Nat) ^ 2000 + 2 ^ 2000 = 2 ^ 2001 := by rw [← Nat.two_mul, Nat.mul_comm, ← Nat.pow_succ]
  have h3 : (2 : Nat) ^ 2001 ≤ 2 ^ 2400 := Nat.pow_le_pow_right (by decide) (by decide)
  omega
abbrev spAddP (K : PySem.W.Frag) : Sp := spP (fun x : P2 × P2 => [(tPr K tInt tInt).is x.1, (tPr K tInt tInt).is x.2]) (tFr K) (fun x => P2Ok x.1 ∧ P2Ok x.2) (fun x => Rat.divInt x.1.1 x.1.2 + Rat.divInt x.2.1 x.2.2)
abbrev spSubP (K : PySem.W.Frag) : Sp := spP (fun x : P2 × P2 => [(tPr K tInt tInt).is x.1, (tPr K tInt tInt).is x.2]) (tFr K) (fun x => P2Ok x.1 ∧ P2Ok x.2) (fun x => Rat.divInt x.1.1 x.1.2 - Rat.divInt x.2.1 x.2.2)
abbrev sLAdd : Stmt := topS 55
theorem scLAdd : FnScope ["a", "b"] ["a", "b"] (defScope sLAdd) := ⟨rfl, rfl, rfl, by decide +kernel, rfl, by decide +kernel, by decide +kernel⟩
theorem ok_ladd {f : Addr} {fd : FuncData} {k : Nat} (F : Fun K "_law_add" "_law_add" sLAdd f fd) (c_law_ratio : Cal P w K mg base k "_law_ratio" ["p", "q"] spRatio) : FnOk P w K mg base CX0 (k + 1) f fd ["a", "b"] (spAddP K) := by
  refine ok_P F scLAdd (fun _ => rfl) fun cdv A outer s H0 S x Q E hr hp out => ⟨_, (pss_one (ps_ret (pe_cal c_law_ratio hr (by rfl) (pa_cons (pe_op op_add (pe_op op_mulA (pe_ix ix_tup (pv 0) pe_int (fun _ _ => rfl)) (pe_ix ix_tup (pv 1) pe_int (fun _ _ => rfl))) (pe_op op_mulA (pe_ix ix_tup (pv 1) pe_int (fun _ _ => rfl)) (pe_ix ix_tup (pv 0) pe_int (fun _ _ => rfl)))) (pa_cons (pe_op op_mulA (pe_ix ix_tup (pv 0) pe_int (fun _ _ => rfl)) (pe_ix ix_tup (pv 1) pe_int (fun _ _ => rfl))) pa_nil))))), ?_⟩
  obtain ⟨⟨p, q⟩, r, t⟩ := x
  obtain ⟨⟨q0, p1, q1⟩, ⟨t0, r1, t1⟩⟩ := hp
  dsimp only at q0 p1 q1 t0 r1 t1 ⊢
  refine go_end (y := Rat.divInt p q + Rat.divInt r t) (ev_is (ev_ratio (ev_add (ev_mul (ev_fst (ev_var rfl)) (ev_snd (ev_var rfl)) (mulZ p1 t1)) (ev_mul (ev_fst (ev_var rfl)) (ev_snd (ev_var rfl)) (mulZ r1 q1))) (ev_mul (ev_snd (ev_var rfl)) (ev_snd (ev_var rfl)) (mulZ q1 t1)) (Int.mul_ne_zero q0 t0) (add24 (pow_lt p1 t1) (pow_lt r1 q1)) (lt24 (pow_lt q1 t1) (by decide))) (Rat.divInt_add_divInt _ _ q0 t0).symm) out
abbrev sLTimes : Stmt := topS 56
theorem scLTimes : FnScope ["a", "b"] ["a", "b"] (defScope sLTimes) := ⟨rfl, rfl, rfl, by decide +kernel, rfl, by decide +kernel, by decide +kernel⟩
theorem ok_ltimes {f : Addr} {fd : FuncData} {k : Nat} (F : Fun K "_law_times" "_law_times" sLTimes f fd) (c_law_ratio : Cal P w K mg base k "_law_ratio" ["p", "q"] spRatio) : FnOk P w K mg base CX0 (k + 1) f fd ["a", "b"] (spTimesT K) := by
  refine ok_P F scLTimes (fun _ => rfl) fun cdv A outer s H0 S x Q E hr hp out => ⟨_, (pss_one (ps_ret (pe_cal c_law_ratio hr (by rfl) (pa_cons (pe_op op_mulA (pe_ix ix_tup (pv 0) pe_int (fun _ _ => rfl)) (pe_ix ix_tup (pv 1) pe_int (fun _ _ => rfl))) (pa_cons (pe_op op_mulA (pe_ix ix_tup (pv 0) pe_int (fun _ _ => rfl)) (pe_ix ix_tup (pv 1) pe_int (fun _ _ => rfl))) pa_nil))))), ?_⟩
  obtain ⟨h, g⟩ := hp
  refine go_end (y := x.1 * x.2) (ev_is (ev_ratio (ev_mul (ev_num (ev_var rfl)) (ev_num (ev_var rfl)) (mulZ h.nn g.nn)) (ev_mul (ev_den (ev_var rfl)) (ev_den (ev_var rfl)) (mulZ h.dd g.dd)) (Int.mul_ne_zero (den_ne _) (den_ne _)) (lt24 (pow_lt h.nn g.nn) (by decide)) (lt24 (pow_lt h.dd g.dd) (by decide))) (mul_div _ _)) out
abbrev sLMinus : Stmt := topS 57
theorem scLMinus : FnScope ["a", "b"] ["a", "b"] (defScope sLMinus) := ⟨rfl, rfl, rfl, by decide +kernel, rfl, by decide +kernel, by decide +kernel⟩
theorem neg_divInt {r t : Int} : Rat.divInt (-r) t = - Rat.divInt r t := by
  rw [Rat.divInt_eq_div, Rat.divInt_eq_div, Rat.intCast_neg]
  grind
theorem ok_lminus {f : Addr} {fd : FuncData} {k : Nat} (F : Fun K "_law_minus" "_law_minus" sLMinus f fd) (c_law_add : Cal P w K mg base k "_law_add" ["a", "b"] (spAddP K)) : FnOk P w K mg base CX0 (k + 1) f fd ["a", "b"] (spSubP K) := by
  refine ok_P F scLMinus (fun _ => rfl) fun cdv A outer s H0 S x Q E hr hp out => ⟨_, (pss_one (ps_ret (pe_cal c_law_add hr (by rfl) (pa_cons (pv 0) (pa_cons (pe_tup (pa_cons (pe_un un_neg (pe_ix ix_tup (pv 1) pe_int (fun _ _ => rfl))) (pa_cons (pe_ix ix_tup (pv 1) pe_int (fun _ _ => rfl)) pa_nil))) pa_nil))))), ?_⟩
  obtain ⟨⟨p, q⟩, r, t⟩ := x
  obtain ⟨h, ⟨t0, r1, t1⟩⟩ := hp
  refine go_end (y := Rat.divInt p q - Rat.divInt r t) (ev_is (ev_call (z := ((p, q), (-r, t))) (ea_cons (ev_var rfl) (ea_cons (ev_pr (K := K) (ev_neg (ev_fst (ev_var rfl))) (ev_snd (ev_var rfl))) ea_nil)) ⟨h, t0, by show (-r).natAbs < _; rw [Int.natAbs_neg]; exact r1, t1⟩) ?_) out
  show Rat.divInt p q + Rat.divInt (-r) t = _
  rw [neg_divInt]
  grind
abbrev sLTotal : Stmt := topS 58
theorem scLTotal : FnScope ["values", "result", "value"] ["values"] (defScope sLTotal) := ⟨rfl, rfl, rfl, by decide +kernel, rfl, by decide +kernel, by decide +kernel⟩
theorem ok_ltotal {f : Addr} {fd : FuncData} {k : Nat} (F : Fun K "_law_total" "_law_total" sLTotal f fd) (c_law_add : Cal P w K mg base k "_law_add" ["a", "b"] (spAddP K)) : FnOk P w K mg base CX0 (k + 1) f fd ["values"] (spTotT K) := by
  refine ok_P F scLTotal (fun _ => rfl) fun cdv A outer s H0 S xs Q E hr hp out => ⟨_, (pss_cons (ps_set (i := 1) scLTotal.nd rfl (Or.inl rfl) (pe_tup (pa_cons pe_int (pa_cons pe_int pa_nil))))
      (pss_cons (ps_for PassesOwn.never rfl (pi_list (pv 0)) (pg_name (i := 2) scLTotal.nd rfl (Or.inl rfl)) (pss_one (ps_set (i := 1) scLTotal.nd rfl (Or.inl rfl) (pe_cal c_law_add hr (by rfl) (pa_cons (pv 1) (pa_cons (pv 2) pa_nil))))))
      (pss_one (ps_ret (pv 1))))), ?_⟩
  obtain ⟨hz, hl⟩ := hp
  refine go_set (t := tFr K) (x := 0) (ev_frac (K := K) ev_int ev_int rfl rfl) ?_
  refine go_seq (go_for (ι := Unit) (iv_list (ev_var rfl)) tgt_name (fun k _ => ([], [some ((tLs K (tFr K)).is xs), some ((tFr K).is (rpre xs k)), none])) (fun _ _ => True) () trivial (fun σ H o => o.sb (by walk_at "sb")) (fun k _ x f hx _ => ?_) (fun _ _ σ H o => ?_))
  · have hk : k < xs.length := (List.getElem?_eq_some_iff.mp hx).1
    have hb : Bq k (rpre xs k) := by
      have := Bq.sum (n := 1) (rs := xs.take k) fun r m => hz r (List.mem_of_mem_take m)
      rw [List.length_take, Nat.min_eq_left (by omega), Nat.one_mul] at this
      exact this
    have s1 := (hb.sz (by omega)).mono (m := 1000) (by decide)
    have s2 := ((hz x (List.mem_of_getElem? hx)).sz (by decide)).mono (m := 1000) (by decide)
    refine go_set1 (x := rpre xs k + x) (ev_is (ev_call (z := (((rpre xs k).num, ((rpre xs k).den : Int)), (x.num, (x.den : Int)))) (ea_cons (ev_raw (ev_var rfl)) (ea_cons (ev_raw (ev_var rfl)) ea_nil)) ⟨p2_of s1, p2_of s2⟩) (by
      show Rat.divInt _ _ + Rat.divInt _ _ = _
      rw [Rat.num_divInt_den, Rat.num_divInt_den])) fun σ H o => ⟨(), trivial, ?_⟩
    show Ok ⟨H0, [], S, [], [f], [some ((tLs K (tFr K)).is xs), some ((tFr K).is (rpre xs (k + 1))), none]⟩ σ H
    rw [rpre_succ hx]
    exact o.sb (by walk_at "sb")
  · exact go_at o (go_end (y := rpre xs xs.length) (ev_var rfl) out (hp := rpre_all xs))
theorem lens_get {i : Nat} (h : i < 12) : lens[i]? = some (mlen i) := (show ∀ i, i < 12 → lens[i]? = some (mlen i) by decide) i h
abbrev sLDate : Stmt := topS 59
theorem scLDate : FnScope ["day", "year", "rest", "month", "length"] ["day"] (defScope sLDate) := ⟨rfl, rfl, rfl, by decide +kernel, rfl, by decide +kernel, by decide +kernel⟩
theorem ok_ldate {f : Addr} {fd : FuncData} {k : Nat} (F : Fun K "_law_date" "_law_date" sLDate f fd) (z_int : mg "int" = none) : FnOk P w K mg base CX0 (k + 1) f fd ["day"] (spDateT K) := by
  refine ok_P F scLDate (fun _ => rfl) fun cdv A outer s H0 S d Q E hr hp out => ⟨_, (pss_cons (ps_set (i := 1) scLDate.nd rfl (Or.inl rfl) (pe_op op_fdivA (pv 0) pe_int))
      (pss_cons (ps_set (i := 2) scLDate.nd rfl (Or.inl rfl) (pe_op op_mod (pe_callTy call_int1 (by rfl) z_int (by decide +kernel) (pa_cons (pv 0) pa_nil)) pe_int))
      (pss_cons (ps_set (i := 3) scLDate.nd rfl (Or.inl rfl) pe_int)
      (pss_cons (ps_for PassesOwn.never rfl (pi_list (pe_lst (pa_cons pe_int (pa_cons pe_int (pa_cons pe_int (pa_cons pe_int (pa_cons pe_int (pa_cons pe_int (pa_cons pe_int (pa_cons pe_int (pa_cons pe_int (pa_cons pe_int (pa_cons pe_int (pa_cons pe_int pa_nil)))))))))))))) (pg_name (i := 4) scLDate.nd rfl (Or.inl rfl)) (pss_one (ps_if (PW.pt (pw_and (pt_cmpR op_ge (pv 3) pe_int (nomark _)) (pw_and1 (pt_cmpR op_ge (pv 2) (pv 4) (nomark _))))) (pss_cons (ps_set (i := 2) scLDate.nd rfl (Or.inl rfl) (pe_op op_sub (pv 2) (pv 4)))
      (pss_one (ps_set (i := 3) scLDate.nd rfl (Or.inl rfl) (pe_op op_add (pv 3) pe_int)))) (pss_one (ps_if (pt_cmpR op_ge (pv 3) pe_int (nomark _)) (pss_one (ps_ret (pe_tup (pa_cons (pv 1) (pa_cons (pe_op op_add (pv 3) pe_int) (pa_cons (pe_op op_add (pv 2) pe_int) pa_nil)))))) pss_nil)))))
      (pss_one (ps_ret (pe_tup (pa_cons (pv 1) (pa_cons pe_int (pa_cons pe_int pa_nil)))))))))), ?_⟩
  have hp : 0 ≤ d := hp
  have r0 : 0 ≤ d % 365 := Int.emod_nonneg _ (by decide)
  have r1 : d % 365 < 365 := Int.emod_lt_of_pos _ (by decide)
  refine go_set (x := d / 365) (ev_is (ev_fdiv (ev_var rfl) ev_int ⟨by decide, by decide⟩) (Int.fdiv_eq_ediv_of_nonneg _ (by decide))) ?_
  refine go_set (x := d % 365 - cum 0) (ev_is (ev_mod (ev_int1 (ev_var rfl)) ev_int (by decide)) (by rw [cum_zero, Int.sub_zero])) ?_
  refine go_set (x := ((0 : Nat) : Int)) ev_int ?_
  refine go_seq (go_for (ι := Unit) (iv_list (xs := lens) (ev_lst (K := K) (el_cons ev_int (el_cons ev_int (el_cons ev_int (el_cons ev_int (el_cons ev_int (el_cons ev_int (el_cons ev_int (el_cons ev_int (el_cons ev_int (el_cons ev_int (el_cons ev_int (el_cons ev_int el_nil)))))))))))) (by show 12 ≤ sizeLine; decide))) tgt_name (fun k _ => ([], [some (tInt.is d), some (tInt.is (d / 365)), some (tInt.is (d % 365 - cum k)), some (tInt.is (k : Int)), none])) (fun k _ => cum k ≤ d % 365) () r0 (fun σ H o => o.sb (by walk_at "sb")) (fun k _ x f hx hk => ?_) (fun _ hk σ H o => ?_))
  · have hl : k < 12 := (List.getElem?_eq_some_iff.mp hx).1
    rw [lens_get hl] at hx
    obtain rfl : mlen k = x := Option.some.inj hx
    have hs := cum_succ k hl
    have hk : cum k ≤ d % 365 := hk
    refine go_if (et_and (b := true) (et_is (et_of (ev_cmp (ev_var rfl) ev_int)) (decide_eq_true (by omega))) fun _ => et_of (ev_cmp (ev_var rfl) (ev_var rfl))) (fun h => ?_) (fun h => ?_)
    · rw [Bool.true_and] at h
      have h := of_decide_eq_true h
      refine go_set (x := d % 365 - cum (k + 1)) (ev_is (ev_sub (ev_var rfl) (ev_var rfl)) (by omega)) ?_
      exact go_set1 (x := ((k + 1 : Nat) : Int)) (ev_is (ev_add (ev_var rfl) ev_int) (by omega)) fun σ H o => ⟨(), by omega, o.sb (by walk_at "sb")⟩
    · rw [Bool.true_and] at h
      have h := of_decide_eq_false h
      refine go_if (et_is (b := decide ((k : Int) ≥ 0)) (c := true) (et_of (ev_cmp (ev_var rfl) ev_int)) (decide_eq_true (by omega))) (fun _ => ?_) (fun z => by cases z)
      have D : DateR d (d / 365) k (d % 365 - cum k + 1) := ⟨hl, by omega, by omega, by omega⟩
      exact go_end (y := (d / 365, (k : Int) + 1, d % 365 - cum k + 1)) (ev_t3 (ev_var rfl) (ev_add (ev_var rfl) ev_int) (ev_add (ev_var rfl) ev_int)) out (dateR_is D).symm
  · have hk : cum 12 ≤ d % 365 := hk
    rw [cum_all] at hk
    omega
abbrev spMD : Sp := spP (fun x : Int × Nat × Int => [tInt.is x.1, tInt.is ((x.2.1 : Int) + 1), tInt.is x.2.2]) tInt (fun x => x.2.1 < 12) (fun x => 365 * x.1 + cum x.2.1 + mn x.2.2 (mlen x.2.1) - 1)
abbrev sLMD : Stmt := topS 60
theorem scLMD : FnScope ["year", "month", "number", "lengths"] ["year", "month", "number"] (defScope sLMD) := ⟨rfl, rfl, rfl, by decide +kernel, rfl, by decide +kernel, by decide +kernel⟩
theorem ok_lmd {f : Addr} {fd : FuncData} {k : Nat} (F : Fun K "_law_month_day" "_law_month_day" sLMD f fd) (z_sum : mg "sum" = none) (z_min : mg "min" = none) : FnOk P w K mg base CX0 (k + 1) f fd ["year", "month", "number"] spMD := by
  refine ok_P F scLMD (fun _ => rfl) fun cdv A outer s H0 S x Q E hr hp out => ⟨_, (pss_cons (ps_set (i := 3) scLMD.nd rfl (Or.inl rfl) (pe_lst (pa_cons pe_int (pa_cons pe_int (pa_cons pe_int (pa_cons pe_int (pa_cons pe_int (pa_cons pe_int (pa_cons pe_int (pa_cons pe_int (pa_cons pe_int (pa_cons pe_int (pa_cons pe_int (pa_cons pe_int pa_nil))))))))))))))
      (pss_one (ps_ret (pe_op op_sub (pe_op op_add (pe_op op_add (pe_op op_mulA pe_int (pv 0)) (pe_callB (cr_sum rfl) (by rfl) z_sum (by decide +kernel) (pa_cons (pe_slice sl_list (pv 3) po_none (po_some (pe_op op_sub (pv 1) pe_int))) pa_nil))) (pe_callB (call_min2 rfl) (by rfl) z_min (by decide +kernel) (pa_cons (pv 2) (pa_cons (pe_ix ix_list (pv 3) (pe_op op_sub (pv 1) pe_int) (fun _ _ => rfl)) pa_nil)))) pe_int)))), ?_⟩
  obtain ⟨y, i, n⟩ := x
  have hp : i < 12 := hp
  dsimp only
  refine go_set (x := lens) (ev_lst (K := K) (el_cons ev_int (el_cons ev_int (el_cons ev_int (el_cons ev_int (el_cons ev_int (el_cons ev_int (el_cons ev_int (el_cons ev_int (el_cons ev_int (el_cons ev_int (el_cons ev_int (el_cons ev_int el_nil)))))))))))) (by show 12 ≤ sizeLine; decide)) ?_
  have e : (i : Int) + 1 - 1 = (i : Int) := by omega
  exact go_end (y := 365 * y + cum i + mn n (mlen i) - 1) (ev_sub (ev_add (ev_add (ev_mul (i := 365) (j := y) ev_int (ev_var rfl) (mulL (by decide))) (ev_is (ev_sumL (ev_sliceL (ev_var rfl) eo_none (eo_some (ev_is (ev_sub (ev_var rfl) ev_int) e)))) (by rw [cutL_to]; rfl))) (ev_is (ev_min (ev_var rfl) (ev_ixL (ev_var rfl) (ev_is (ev_sub (ev_var rfl) ev_int) e) (atI_nat (lens_get hp)))) rfl)) ev_int) out
abbrev sLLater : Stmt := topS 61
theorem scLLater : FnScope ["day", "months", "date", "count"] ["day", "months"] (defScope sLLater) := ⟨rfl, rfl, rfl, by decide +kernel, rfl, by decide +kernel, by decide +kernel⟩
theorem ok_llater {f : Addr} {fd : FuncData} {k : Nat} (F : Fun K "_law_later" "_law_later" sLLater f fd) (c_law_date : Cal P w K mg base k "_law_date" ["day"] (spDateT K)) (c_law_month_day : Cal P w K mg base k "_law_month_day" ["year", "month", "number"] spMD) (z_int : mg "int" = none) : FnOk P w K mg base CX0 (k + 1) f fd ["day", "months"] spAddT := by
  refine ok_P F scLLater (fun _ => rfl) fun cdv A outer s H0 S x Q E hr hp out => ⟨_, (pss_cons (ps_set (i := 2) scLLater.nd rfl (Or.inl rfl) (pe_cal c_law_date hr (by rfl) (pa_cons (pv 0) pa_nil)))
      (pss_cons (ps_set (i := 3) scLLater.nd rfl (Or.inl rfl) (pe_op op_add (pe_op op_sub (pe_op op_add (pe_op op_mulA pe_int (pe_ix ix_tup (pv 2) pe_int (fun _ _ => rfl))) (pe_ix ix_tup (pv 2) pe_int (fun _ _ => rfl))) pe_int) (pv 1)))
      (pss_one (ps_ret (pe_cal c_law_month_day hr (by rfl) (pa_cons (pe_op op_fdivA (pv 3) pe_int) (pa_cons (pe_op op_add (pe_op op_mod (pe_callTy call_int1 (by rfl) z_int (by decide +kernel) (pa_cons (pv 3) pa_nil)) pe_int) pe_int) (pa_cons (pe_ix ix_tup (pv 2) pe_int (fun _ _ => rfl)) pa_nil)))))))), ?_⟩
  obtain ⟨d, c⟩ := x
  obtain ⟨d0, c0⟩ := hp
  have d0 : 0 ≤ d := d0
  dsimp only
  refine go_set (x := dtO d) (ev_call (z := d) (ea_cons (ev_var rfl) ea_nil) d0) ?_
  refine go_set (x := mon d + c) (ev_is (ev_add (ev_sub (ev_add (ev_mul (i := 12) (j := mon d / 12) ev_int (ev_item (n := 0) (ev_var rfl) rfl) (mulL (by decide))) (ev_item (n := 1) (y := mon d % 12 + 1) (ev_var rfl) rfl)) ev_int) (ev_var rfl)) (show 12 * (mon d / 12) + (mon d % 12 + 1) - 1 + c = mon d + c by omega)) ?_
  have em : ((mon d + c) % 12 + 1) = (((mon d + c) % 12).toNat : Int) + 1 := by rw [Int.toNat_of_nonneg (Int.emod_nonneg _ (by decide))]
  refine go_end (y := lat d c) (ev_is (ev_call (z := ((mon d + c) / 12, ((mon d + c) % 12).toNat, num d)) (ea_cons (ev_is (ev_fdiv (ev_var rfl) ev_int ⟨by decide, by decide⟩) (Int.fdiv_eq_ediv_of_nonneg _ (by decide))) (ea_cons (ev_is (ev_add (ev_mod (ev_int1 (ev_var rfl)) ev_int (by decide)) ev_int) em) (ea_cons (ev_item (n := 2) (y := num d) (ev_var rfl) rfl) ea_nil))) (ix12 _)) rfl) out
abbrev sLAdj : Stmt := topS 62
theorem scLAdj : FnScope ["day", "word", "following"] ["day", "word"] (defScope sLAdj) := ⟨rfl, rfl, rfl, by decide +kernel, rfl, by decide +kernel, by decide +kernel⟩
theorem ok_ladj {f : Addr} {fd : FuncData} {k : Nat} (F : Fun K "_law_adjusted" "_law_adjusted" sLAdj f fd) (c_law_date : Cal P w K mg base k "_law_date" ["day"] (spDateT K)) (z_int : mg "int" = none) : FnOk P w K mg base CX0 (k + 1) f fd ["day", "word"] spAdjT := by
  refine ok_P F scLAdj (fun _ => rfl) fun cdv A outer s H0 S x Q E hr hp out => ⟨_, (pss_cons (ps_if (PW.pt (pw_or (pt_cmpR op_eq (pv 1) pe_str (nomark _)) (pw_or1 (pt_cmpR op_lt (pe_op op_mod (pe_callTy call_int1 (by rfl) z_int (by decide +kernel) (pa_cons (pv 0) pa_nil)) pe_int) pe_int (nomark _))))) (pss_one (ps_ret (pv 0))) pss_nil)
      (pss_cons (ps_set (i := 2) scLAdj.nd rfl (Or.inl rfl) (pe_op op_sub (pe_op op_add (pv 0) pe_int) (pe_op op_mod (pe_callTy call_int1 (by rfl) z_int (by decide +kernel) (pa_cons (pv 0) pa_nil)) pe_int)))
      (pss_cons (ps_if (PW.pt (pw_or (pt_cmpR op_eq (pv 1) pe_str (nomark _)) (pw_or1 (PW.pt (pw_and (pt_cmpR op_eq (pv 1) pe_str (nomark _)) (pw_and1 (pt_cmpR op_eq (pe_ix ix_tup (pe_cal c_law_date hr (by rfl) (pa_cons (pv 2) pa_nil)) pe_int (fun _ _ => rfl)) (pe_ix ix_tup (pe_cal c_law_date hr (by rfl) (pa_cons (pv 0) pa_nil)) pe_int (fun _ _ => rfl)) (nomark _)))))))) (pss_one (ps_ret (pv 2))) pss_nil)
      (pss_one (ps_ret (pe_op op_add (pe_op op_sub (pv 0) (pe_op op_mod (pe_callTy call_int1 (by rfl) z_int (by decide +kernel) (pa_cons (pv 0) pa_nil)) pe_int)) pe_int)))))), ?_⟩
  obtain ⟨d, z⟩ := x
  obtain ⟨d0, hz⟩ := hp
  have d0 : 0 ≤ d := d0
  have hz : z ∈ fourW := hz
  dsimp only
  refine go_ifr (et_or (et_of (ev_eqS (ev_var rfl) ev_str)) fun _ => et_of (ev_cmp (ev_mod (ev_int1 (ev_var rfl)) ev_int (by decide)) ev_int)) (fun h => ?_) (fun h => ?_)
  · rw [Bool.or_eq_true, decide_eq_true_eq, decide_eq_true_eq] at h
    exact go_end (y := d) (ev_var rfl) out (adj_same (h.elim .inr fun q => .inl (by omega))).symm
  rw [Bool.or_eq_false_iff, decide_eq_false_iff_not, decide_eq_false_iff_not] at h
  have nb : ¬ (d % 7 ≤ 4 ∨ z = "none") := fun q => q.elim (fun q => h.2 (by omega)) h.1
  have wk := adj_wk nb
  refine go_set (x := d - d % 7 + 7) (ev_is (ev_sub (ev_add (ev_var rfl) ev_int) (ev_mod (ev_int1 (ev_var rfl)) ev_int (by decide))) (by omega)) ?_
  have near : ((dtO (d - d % 7 + 7)).2.1 = (dtO d).2.1) ↔ mon (d - d % 7 + 7) = mon d := by
    have D1 := dateR_of d
    have D2 := dateR_of (d - d % 7 + 7)
    rw [← mon_near D1 D2 (by omega) (by omega)]
    show mon (d - d % 7 + 7) % 12 + 1 = mon d % 12 + 1 ↔ _
    omega
  refine go_ifr (et_or (et_of (ev_eqS (ev_var rfl) ev_str)) fun _ => et_and (et_of (ev_eqS (ev_var rfl) ev_str)) fun _ => et_of (ev_eqI (ev_item (n := 1) (y := (dtO (d - d % 7 + 7)).2.1) (ev_call (z := d - d % 7 + 7) (ea_cons (ev_var rfl) ea_nil) (show 0 ≤ d - d % 7 + 7 by omega)) rfl) (ev_item (n := 1) (y := (dtO d).2.1) (ev_call (z := d) (ea_cons (ev_var rfl) ea_nil) d0) rfl))) (fun h1 => ?_) (fun h1 => ?_)
  · rw [Bool.or_eq_true, Bool.and_eq_true, decide_eq_true_eq, decide_eq_true_eq, decide_eq_true_eq] at h1
    refine go_end (y := d - d % 7 + 7) (ev_var rfl) out ?_
    show d - d % 7 + 7 = adj d z
    rw [wk]
    rcases h1 with h1 | ⟨h1, h2⟩
    · rw [if_neg (by rw [h1]; decide +kernel), if_neg (fun q => absurd (h1.symm.trans q.1) (by decide +kernel))]
    · rw [if_neg (by rw [h1]; decide +kernel), if_neg (fun q => q.2 (near.mp h2))]
  · rw [Bool.or_eq_false_iff, decide_eq_false_iff_not, Bool.and_eq_false_iff, decide_eq_false_iff_not, decide_eq_false_iff_not] at h1
    refine go_end (y := d - d % 7 + 4) (ev_add (ev_sub (ev_var rfl) (ev_mod (ev_int1 (ev_var rfl)) ev_int (by decide))) ev_int) out ?_
    show d - d % 7 + 4 = adj d z
    rw [wk]
    have four : z = "none" ∨ z = "next" ∨ z = "before" ∨ z = "modified" := by simpa [fourW] using hz
    rcases four with q | q | q | q
    · exact absurd q h.1
    · exact absurd q h1.1
    · rw [if_pos q]
    · rw [if_neg (by rw [q]; decide +kernel), if_pos ⟨q, fun e => h1.2.elim (fun n => n q) (fun n => n (near.mpr e))⟩]
abbrev spNumP (K : PySem.W.Frag) : Sp := spN (fun _ : Str × Int => []) (fun x => [tSt.is x.1, tInt.is x.2]) (tPr K tInt tInt) (fun x => x.1 ∈ counts ∧ 0 ≤ x.2 ∧ x.2 ≤ 10000) (fun x y => P2Ok y ∧ Rat.divInt y.1 y.2 = lnumP x.1 x.2)
abbrev sLNum : Stmt := topS 64
theorem scLNum : FnScope ["count", "day", "date", "length"] ["count", "day"] (defScope sLNum) := ⟨rfl, rfl, rfl, by decide +kernel, rfl, by decide +kernel, by decide +kernel⟩
theorem ok_lnum {f : Addr} {fd : FuncData} {k : Nat} (F : Fun K "_law_number_of" "_law_number_of" sLNum f fd) (c_law_date : Cal P w K mg base k "_law_date" ["day"] (spDateT K)) (c_law_ratio : Cal P w K mg base k "_law_ratio" ["p", "q"] spRatio) (z_min : mg "min" = none) : FnOk P w K mg base CX0 (k + 1) f fd ["count", "day"] (spNumP K) := by
  refine ok_N F scLNum (fun _ => rfl) fun cdv A outer s H0 S x Q E hr hp out => ⟨_, (pss_cons (ps_if (pt_cmpR op_eq (pv 0) pe_str (nomark _)) (pss_one (ps_ret (pe_tup (pa_cons (pv 1) (pa_cons pe_int pa_nil))))) pss_nil)
      (pss_cons (ps_set (i := 2) scLNum.nd rfl (Or.inl rfl) (pe_cal c_law_date hr (by rfl) (pa_cons (pv 1) pa_nil)))
      (pss_cons (ps_if (pt_cmpR op_eq (pv 0) pe_str (nomark _)) (pss_one (ps_ret (pe_cal c_law_ratio hr (by rfl) (pa_cons (pe_op op_add (pe_op op_add (pe_op op_mulA pe_int (pe_ix ix_tup (pv 2) pe_int (fun _ _ => rfl))) (pe_op op_mulA pe_int (pe_ix ix_tup (pv 2) pe_int (fun _ _ => rfl)))) (pe_callB (call_min2 rfl) (by rfl) z_min (by decide +kernel) (pa_cons (pe_ix ix_tup (pv 2) pe_int (fun _ _ => rfl)) (pa_cons pe_int pa_nil)))) (pa_cons pe_int pa_nil))))) pss_nil)
      (pss_cons (ps_set (i := 3) scLNum.nd rfl (Or.inl rfl) (pe_ix ix_list (pe_lst (pa_cons pe_int (pa_cons pe_int (pa_cons pe_int (pa_cons pe_int (pa_cons pe_int (pa_cons pe_int (pa_cons pe_int (pa_cons pe_int (pa_cons pe_int (pa_cons pe_int (pa_cons pe_int (pa_cons pe_int pa_nil))))))))))))) (pe_op op_sub (pe_ix ix_tup (pv 2) pe_int (fun _ _ => rfl)) pe_int) (fun _ _ => rfl)))
      (pss_one (ps_ret (pe_cal c_law_ratio hr (by rfl) (pa_cons (pe_op op_sub (pe_op op_add (pe_op op_mulA (pe_op op_add (pe_op op_mulA pe_int (pe_ix ix_tup (pv 2) pe_int (fun _ _ => rfl))) (pe_ix ix_tup (pv 2) pe_int (fun _ _ => rfl))) (pv 3)) (pe_ix ix_tup (pv 2) pe_int (fun _ _ => rfl))) pe_int) (pa_cons (pe_op op_mulA pe_int (pv 3)) pa_nil))))))))), ?_⟩
  obtain ⟨c, d⟩ := x
  obtain ⟨hc, d0, d1⟩ := hp
  have d0 : 0 ≤ d := d0
  have d1 : d ≤ 10000 := d1
  dsimp only
  have hms := mon_small d0 d1
  have hns := num_small d
  have p20 : ∀ {i : Int}, i.natAbs < 2 ^ 40 → i.natAbs < 2 ^ 1000 := fun h => Nat.lt_of_lt_of_le h (Nat.pow_le_pow_right (by decide) (by decide))
  have p24 : ∀ {i : Int}, i.natAbs < 2 ^ 40 → i.natAbs < 2 ^ 2400 := fun h => Nat.lt_of_lt_of_le h (Nat.pow_le_pow_right (by decide) (by decide))
  refine go_ifr (et_of (ev_eqS (ev_var rfl) ev_str)) (fun h1 => ?_) (fun h1 => ?_)
  · refine go_end (y := (d, 365)) (ev_pr (K := K) (ev_var rfl) ev_int) out ⟨⟨show (365 : Int) ≠ 0 by decide, p20 (show d.natAbs < 2 ^ 40 by omega), p20 (show (365 : Int).natAbs < 2 ^ 40 by decide)⟩, ?_⟩
    show Rat.divInt d 365 = lnumP c d
    unfold lnumP
    rw [if_pos (of_decide_eq_true h1)]
  have h1 := of_decide_eq_false h1
  refine go_set (x := dtO d) (ev_call (z := d) (ea_cons (ev_var rfl) ea_nil) d0) ?_
  have fin : ∀ {r : Rat}, Sz 1000 r → r = lnumP c d → P2Ok (r.num, (r.den : Int)) ∧ Rat.divInt (r.num, (r.den : Int)).1 (r.num, (r.den : Int)).2 = lnumP c d := fun h e => ⟨p2_of h, (p2_rat _).trans e⟩
  refine go_ifr (et_of (ev_eqS (ev_var rfl) ev_str)) (fun h2 => ?_) (fun h2 => ?_)
  · have e0 : lnumP c d = Rat.divInt (30 * mon d + 30 + mn (num d) 30) 360 := by
      unfold lnumP
      rw [if_neg h1, if_pos (of_decide_eq_true h2)]
    have k0 : 1 ≤ mn (num d) 30 := by rcases mn_or (num d) 30 with e | e <;> rw [e] <;> omega
    have k1 := mn_le (num d) 30
    have bd : (30 * mon d + 30 + mn (num d) 30).natAbs < 2 ^ 40 := by omega
    refine go_end (ev_raw (r := Rat.divInt (30 * mon d + 30 + mn (num d) 30) 360) (ev_ratio (ev_is (ev_add (ev_add (ev_mul (i := 360) (j := mon d / 12) ev_int (ev_item (n := 0) (ev_var rfl) rfl) (mulL (by decide))) (ev_mul (i := 30) (j := mon d % 12 + 1) ev_int (ev_item (n := 1) (ev_var rfl) rfl) (mulL (by decide)))) (ev_is (ev_min (ev_item (n := 2) (y := num d) (ev_var rfl) rfl) ev_int) (show _ = mn (num d) 30 from rfl))) (show 360 * (mon d / 12) + 30 * (mon d % 12 + 1) + mn (num d) 30 = _ by omega)) ev_int (by decide) (p24 bd) (p24 (by decide)))) out (fin ((sz_div (n := 40) (by decide) bd (by decide)).mono (by decide)) e0.symm)
  · have h2 := of_decide_eq_false h2
    have hl := ml_bd (mon d)
    have em : (mon d % 12).toNat < 12 := ix12 (mon d)
    have e0 : lnumP c d = Rat.divInt ((mon d + 1) * ml (mon d) + num d - 1) (12 * ml (mon d)) := by
      unfold lnumP
      rw [if_neg h1, if_neg h2, Rat.divInt_eq_div, Rat.divInt_eq_div, Rat.divInt_eq_div, Rat.intCast_mul 12 (ml (mon d)), show ((mon d + 1) * ml (mon d) + num d - 1 : Int) = (mon d + 1) * ml (mon d) + (num d - 1) by omega, Rat.intCast_add ((mon d + 1) * ml (mon d)) (num d - 1), Rat.intCast_mul (mon d + 1) (ml (mon d))]
      have e1 : ((ml (mon d) : Int) : Rat) ≠ 0 := fun q => by
        have : ml (mon d) = 0 := Rat.intCast_inj.mp q
        omega
      have e2 : ((12 : Int) : Rat) = 12 := rfl
      rw [e2]
      grind
    refine go_set (x := ml (mon d)) (ev_ixL (xs := lens) (ev_lst (K := K) (el_cons ev_int (el_cons ev_int (el_cons ev_int (el_cons ev_int (el_cons ev_int (el_cons ev_int (el_cons ev_int (el_cons ev_int (el_cons ev_int (el_cons ev_int (el_cons ev_int (el_cons ev_int el_nil)))))))))))) (by show 12 ≤ sizeLine; decide)) (ev_is (ev_sub (ev_item (n := 1) (y := mon d % 12 + 1) (ev_var rfl) rfl) ev_int) (show mon d % 12 + 1 - 1 = ((mon d % 12).toNat : Int) by omega)) (atI_nat (lens_get em))) ?_
    have b0 : (mon d + 1) * ml (mon d) ≤ 10012 * 31 := Int.mul_le_mul (by omega) hl.2 (by omega) (by decide)
    have b1 : 0 ≤ (mon d + 1) * ml (mon d) := Int.mul_nonneg (by omega) (by omega)
    have bd : ((mon d + 1) * ml (mon d) + num d - 1).natAbs < 2 ^ 40 := by omega
    refine go_end (ev_raw (r := Rat.divInt ((mon d + 1) * ml (mon d) + num d - 1) (12 * ml (mon d))) (ev_ratio (ev_sub (ev_add (ev_mul (i := mon d + 1) (j := ml (mon d)) (ev_is (ev_add (ev_mul (i := 12) (j := mon d / 12) ev_int (ev_item (n := 0) (ev_var rfl) rfl) (mulL (by decide))) (ev_item (n := 1) (y := mon d % 12 + 1) (ev_var rfl) rfl)) (show 12 * (mon d / 12) + (mon d % 12 + 1) = mon d + 1 by omega)) (ev_var rfl) (mulZ (p20 (by omega)) (p20 (by omega)))) (ev_item (n := 2) (y := num d) (ev_var rfl) rfl)) ev_int) (ev_mul (i := 12) (j := ml (mon d)) ev_int (ev_var rfl) (mulL (by decide))) (by omega) (p24 bd) (p24 (by omega)))) out (fin ((sz_div (n := 40) (by omega) bd (by omega)).mono (by decide)) e0.symm)
abbrev spLInt (K : PySem.W.Frag) (CB : Addr) : Sp := spP (fun x : UA => [(tB9 K CB).is x.b, (tMp (tFr K)).is x.m, tInt.is x.s, tInt.is x.u]) (tFr K) (fun x => Bo x.b ∧ (∃ r, x.m x.s = some r ∧ Rq r) ∧ 0 ≤ x.s ∧ x.s ≤ x.u ∧ x.u ≤ 10000) (fun x => itU x.b x.m x.s x.u)
abbrev sLInt : Stmt := topS 65
theorem scLInt : FnScope ["bond", "rates", "start", "end", "part_v"] ["bond", "rates", "start", "end"] (defScope sLInt) := ⟨rfl, rfl, rfl, by decide +kernel, rfl, by decide +kernel, by decide +kernel⟩
theorem ok_lint {f CB : Addr} {fd : FuncData} {k : Nat} (F : Fun K "_law_interest" "_law_interest" sLInt f fd) (BC : BondC K CB) (c_law_minus : Cal P w K mg base k "_law_minus" ["a", "b"] (spSubP K)) (c_law_number_of : Cal P w K mg base k "_law_number_of" ["count", "day"] (spNumP K)) (c_law_times : Cal P w K mg base k "_law_times" ["a", "b"] (spTimesT K)) : FnOk P w K mg base CX0 (k + 1) f fd ["bond", "rates", "start", "end"] (spLInt K CB) := by
  refine ok_P F scLInt (fun _ => rfl) fun cdv A outer s H0 S x Q E hr hp out => ?_
  have hu := hu_of hr
  refine ⟨_, (pss_cons (ps_set (i := 4) scLInt.nd rfl (Or.inl rfl) (pe_cal c_law_minus hr (by rfl) (pa_cons (pe_cal c_law_number_of hr (by rfl) (pa_cons (pe_fld (pv 0) rfl) (pa_cons (pv 3) pa_nil))) (pa_cons (pe_cal c_law_number_of hr (by rfl) (pa_cons (pe_fld (pv 0) rfl) (pa_cons (pv 2) pa_nil))) pa_nil))))
      (pss_one (ps_ret (pe_cal c_law_times hr (by rfl) (pa_cons (pe_cal c_law_times hr (by rfl) (pa_cons (pe_fld (pv 0) rfl) (pa_cons (pe_dget hu (pv 1) (pv 2) (fun _ _ => rfl)) pa_nil))) (pa_cons (pv 4) pa_nil)))))), ?_⟩
  obtain ⟨hb, ⟨r, er, hq⟩, s0, su, u1⟩ := hp
  refine go_set (t := tFr K) (x := prt x.b.count x.s x.u) (fun σ H o Q q => (evx_call (z := (x.b.count, x.u)) (ea_cons (ev_fld 4 (ev_var rfl) BC.cl BC.n8) (ea_cons (ev_var rfl) ea_nil)) ⟨hb.ct, by show 0 ≤ x.u; omega, u1⟩) σ H o _ fun v1 y1 H1 p1 g1 r1 => (evx_call (z := (x.b.count, x.s)) (ea_cons (ev_fld 4 (ev_var rfl) BC.cl BC.n8) (ea_cons (ev_var rfl) ea_nil)) ⟨hb.ct, s0, by show x.s ≤ 10000; omega⟩) σ H1 g1.ok _ fun v2 y2 H2 p2 g2 r2 => ?_) ?_
  · refine ⟨_, (y1, y2), g2.ok.al, by show ([] : List Addr).Nodup; exact List.nodup_nil, fun a m => (nomatch m), fun r m => (nomatch m), ⟨(tPr K tInt tInt).mono g2.up r1, r2, trivial⟩, ⟨p1.1, p2.1⟩, fun v y H3 py b al c rr => ?_⟩
    have py : y = Rat.divInt y1.1 y1.2 - Rat.divInt y2.1 y2.2 := py
    rw [p1.2, p2.2, prt_law] at py
    rw [py] at rr
    exact q v H3 ((g1.trans g2).trans (g2.ok.go b.same)) rr
  have hm : Sz 200 (x.b.face * r) := by
    rw [← mul_div]
    exact sz_div (Int.mul_ne_zero (den_ne _) (den_ne _)) (pow_lt hb.fc.sz.nn hq.sz.nn) (pow_lt hb.fc.sz.dd hq.sz.dd)
  refine go_end (y := itU x.b x.m x.s x.u) (ev_is (ev_call (z := (x.b.face * r, prt x.b.count x.s x.u)) (ea_cons (ev_call (z := (x.b.face, r)) (ea_cons (ev_fld 0 (ev_var rfl) BC.cl BC.n3) (ea_cons (ev_mpGet (ev_var rfl) (ev_var rfl) er) ea_nil)) ⟨hb.fc.sz.mono (by decide), hq.sz.mono (by decide)⟩) (ea_cons (ev_var rfl) ea_nil)) ⟨hm.mono (by decide), (prt_sz x.b.count s0 (by omega) (by omega) u1).mono (by decide)⟩) ?_) out
  show x.b.face * r * prt x.b.count x.s x.u = itU x.b x.m x.s x.u
  unfold itU
  rw [er]
  rfl
end
end Cs
set_option maxHeartbeats 4000000
namespace Cs
open PySem PySem.Spec PyProof.Rows L2
local macro_rules | `(tactic| walk_at "rd") => `(tactic| (first
  | (refine ⟨_, rfl, ?_⟩)
  | (refine ⟨_, _, rfl, rfl, ?_⟩)
  | (refine .inl ⟨_, rfl, ?_⟩)
  | (refine .inr ⟨_, rfl, ?_⟩)
  | (refine ⟨_, _, _, _, rfl, rfl, SqL.of upd_same, rfl, ?_⟩)
  | (refine ⟨_, _, _, _, rfl, rfl, upd_same, rfl, ?_⟩)
  | (refine ⟨_, ?xs, _, ?v, rfl, rfl, ?h, ?x, ?_⟩; (case h => first | exact SqL.of (by assumption) | exact SqT.of (by assumption) | assumption); (case x => first | rfl | exact atI_nat (j := 0) rfl | exact atI_nat (j := 1) rfl))))
local macro_rules | `(tactic| walk_at "isi") => `(tactic| (first
  | (refine ⟨_, _, _, _, _, rfl, .ty _, .base (.int _), kit_ty kit_it, ?_⟩)
  | (refine ⟨_, _, _, _, _, rfl, .ty _, .base (.int _), kit_ty kit_ib, ?_⟩)
  | (refine ⟨_, _, _, _, _, rfl, .ty _, .base (.int _), kit_ty kit_ii, ?_⟩)
  | (refine ⟨_, _, _, _, _, rfl, .ty _, .base (.bl _), kit_ty kit_bt, ?_⟩)
  | (refine ⟨_, _, _, _, _, rfl, .ty _, .base (.bl _), kit_ty kit_bb, ?_⟩)
  | (refine ⟨_, _, _, _, _, rfl, .ty _, .base (.bl _), kit_ty kit_bi, ?_⟩)))
local macro_rules | `(tactic| walk_at "ev") => `(tactic| (first
  | exact ev_var rfl
  | exact ev_int
  | exact ev_str
  | exact ev_bl
  | exact ev_non
  | (refine ev_add ?_ ?_ <;> walk_at "ev")
  | (refine ev_sub ?_ ?_ <;> walk_at "ev")
  | (refine ev_mul ?_ ?_ ?_ <;> (try walk_at "ev"))
  | (refine ev_neg ?_ <;> walk_at "ev")
  | (refine ev_num ?_ <;> walk_at "ev")
  | (refine ev_den ?_ <;> walk_at "ev")
  | (refine ev_cmp ?_ ?_ <;> walk_at "ev")
  | (refine ev_eqI ?_ ?_ <;> walk_at "ev")
  | (refine ev_eqS ?_ ?_ <;> walk_at "ev")
  | (refine ev_neI ?_ ?_ <;> walk_at "ev")
  | (refine ev_neS ?_ ?_ <;> walk_at "ev")
  | (refine ev_inS ?_ ?_ <;> walk_at "ev")
  | (refine ev_niS ?_ ?_ <;> walk_at "ev")
  | (refine ev_len ?_ <;> walk_at "ev")
  | (refine ev_list ?_ <;> walk_at "ev")
  | (refine ev_listRev ?_ <;> walk_at "ev")
  | (refine ev_int1 ?_ <;> walk_at "ev")))
local macro_rules | `(tactic| walk_at "ea") => `(tactic| (first
  | exact ea_nil
  | (refine ea_cons ?_ ?_ <;> (first | walk_at "ev" | walk_at "ea" | skip))))
local macro_rules | `(tactic| walk_at "sb") => `(tactic| (first | exact True.intro | (refine And.intro rfl ?_; walk_at "sb")))
local macro_rules | `(tactic| walk_at "subt") => `(tactic| repeat (first | exact List.nil_sublist _ | apply List.Sublist.cons₂ | apply List.Sublist.cons))
section
variable {P : Program} {w : World} {K : PySem.W.Frag} {mg : Str → Option Value} {base : Heap}
/-! ### the law's own periods -/
section
variable {α : Type} {W : Wd} {ta tb : TE} {t : Ty α} {x : α} {xs : List α} {i j : Int}
theorem iv_range2 (ha : Ev W ta tInt i) (hb : Ev W tb tInt j) (h1 : -(2 ^ 62) ≤ i) (h2 : i < 2 ^ 62) (h3 : -(2 ^ 62) ≤ j) (h4 : j < 2 ^ 62) : Iv W (iRng2 (tCons ta (tCons tb tNil))) tInt ((List.range (j - i).toNat).map fun (k : Nat) => i + (k : Int)) := fun σ H o R q => ha σ H o _ fun v H1 g1 r => hb σ H1 g1.ok _ fun v2 H2 g2 r2 =>
  ⟨i, j, by rw [show v = .int i from r, show v2 = .int j from r2], ⟨h1, h2, h3, h4⟩, q _ _ ffT (g1.trans g2) trivial ⟨YFn fun (k : Nat) => .int (i + (k : Int)), by
    rw [List.length_map, List.length_range]
    exact walk_range.mono (fun _ _ => trivial) fun i H v H' _ _ h => h, fun k H v H' S hi z _ ⟨e1, e2⟩ => by
    subst e1 e2
    rw [List.length_map, List.length_range] at hi
    exact ⟨Same.refl _, i + (k : Int), by rw [List.getElem?_map, List.getElem?_range hi]; rfl, rfl⟩⟩⟩
theorem ev_ixC {s : Nat} {p : Addr} {n : Int} (hs : W.G[s]? = some (some (tRf.is p))) (hL : cell p (cLs t xs) ∈ W.L) (hb : Ev W tb tInt n) (e : atI xs n = some x) : Ev W (tOp (rIxL K) (tVar s) tb) t x := fun σ H o Q q => by
  obtain ⟨v, h1, rfl⟩ := o.slots s _ hs
  refine ⟨.ref p, h1, hb σ H o _ fun v2 H2 g2 r2 => ?_⟩
  obtain ⟨ob, hob, vs, rfl, al⟩ := g2.ok.at_ _ hL
  unfold atI at e
  rw [← al.length] at e
  cases c : ixN vs.length n with
  | none => rw [c] at e; cases e
  | some k =>
    rw [c] at e
    have e : xs[k]? = some x := e
    have hk : k < vs.length := by rw [al.length]; exact (List.getElem?_eq_some_iff.mp e).1
    obtain ⟨y, h3, h4⟩ := al.getV (List.getElem?_eq_getElem hk)
    rw [e] at h3
    obtain rfl := Option.some.inj h3
    exact ⟨p, vs, n, vs[k], rfl, r2, SqL.of hob, by unfold atI; rw [c]; exact List.getElem?_eq_getElem hk, q _ H2 g2 h4⟩
end
theorem fsm_add (M : Int) : ∀ c : Nat, fsm M + 28 * (c : Int) ≤ fsm (M + (c : Int))
  | 0 => by simp
  | c + 1 => by
    have ih := fsm_add M c
    have h := fsm_lt (M := M + (c : Int)) (N := M + ((c + 1 : Nat) : Int)) (by omega)
    have l := ml_bd (M + (c : Int))
    omega
theorem lat_far (s : Int) (c : Nat) : s + 28 * (c : Int) - 3 ≤ lat s (c : Int) := by
  have h1 := fsm_add (mon s) c
  have h2 := day_eq s
  have h3 := num_bd s
  have h4 := ml_bd (mon s)
  have h5 := ml_bd (mon s + (c : Int))
  unfold lat
  rcases mn_or (num s) (ml (mon s + (c : Int))) with e | e <;> rw [e] <;> omega
theorem lat_le {s a b : Int} (h : a ≤ b) : lat s a ≤ lat s b := by
  rcases Int.lt_or_eq_of_le h with q | q
  · exact Int.le_of_lt (lat_lt s q)
  · rw [q]; exact Int.le_refl _
section
variable {b : B9}
theorem Bo.n2 (h : Bo b) : nB b ≤ 37 := by
  refine Nat.le_of_not_lt fun q => ?_
  have h1 := h.sch.lo 37 q
  have h2 := lat_far b.first 37
  have h3 : lat b.first ((37 : Nat) : Int) ≤ lat b.first (b.months * ((37 : Nat) : Int)) := lat_le (by have := h.m1; omega)
  have h4 := h.l1
  omega
theorem dB_0 (h : Bo b) : dB b 0 = b.first := sday_zero h.n1.1
theorem dB_ge {j : Nat} (hj : nB b ≤ j) : dB b j = b.last := by
  unfold dB sday
  rw [if_neg (by omega)]
theorem dB_lt {j : Nat} (hj : j < nB b) : dB b j = lat b.first (b.months * (j : Int)) := by
  unfold dB sday
  rw [if_pos hj]
theorem Bo.next (h : Bo b) (i : Nat) : (decide (lat b.first (b.months * ((i + 1 : Nat) : Int)) < b.last) && decide (dB b i < b.last)) = decide (i + 1 < nB b) := by
  rw [Bool.eq_iff_iff, Bool.and_eq_true, decide_eq_true_eq, decide_eq_true_eq, decide_eq_true_eq]
  constructor
  · rintro ⟨h1, _⟩
    refine Nat.lt_of_not_le fun q => ?_
    have h2 := h.sch.hi
    have h3 : lat b.first (b.months * (nB b : Int)) ≤ lat b.first (b.months * ((i + 1 : Nat) : Int)) := lat_le (Int.mul_le_mul_of_nonneg_left (by omega) (by have := h.m1; omega))
    unfold nB at h3
    omega
  · intro q
    refine ⟨h.sch.lo (i + 1) q, ?_⟩
    rw [dB_lt (by omega)]
    exact h.sch.lo i (by unfold nB at q; omega)
theorem Bo.up (h : Bo b) (j : Nat) : decide (dB b j < dB b (j + 1)) = decide (j < nB b) := by
  refine decide_eq_decide.mpr ⟨fun q => Nat.lt_of_not_le fun z => ?_, fun q => sched_up h.sch h.m1 q⟩
  rw [dB_ge z, dB_ge (by omega)] at q
  omega
theorem Bo.dnn (h : Bo b) (j : Nat) : 0 ≤ dB b j := sday_nn h.f0 (by have := h.f0; have := h.l0; omega) h.m1
end
abbrev sLPer : Stmt := topS 63
theorem scLPer : FnScope ["bond", "days", "k", "following", "found"] ["bond"] (defScope sLPer) := ⟨rfl, rfl, rfl, by decide +kernel, rfl, by decide +kernel, by decide +kernel⟩
theorem ok_lper {f CB : Addr} {fd : FuncData} {k : Nat} (F : Fun K "_law_periods" "_law_periods" sLPer f fd) (BC : BondC K CB) (c_law_later : Cal P w K mg base k "_law_later" ["day", "months"] spAddT) (c_law_adjusted : Cal P w K mg base k "_law_adjusted" ["day", "word"] spAdjT) (z_range : mg "range" = none) (z_len : mg "len" = none) (z_max : mg "max" = none) : FnOk P w K mg base CX0 (k + 1) f fd ["bond"] (spRows K CB) := by
  refine ok_P F scLPer (fun _ => rfl) fun cdv A outer s H0 S b Q E hr hp out => ⟨_, (pss_cons (ps_set (i := 1) scLPer.nd rfl (Or.inl rfl) (pe_lst (pa_cons (pe_fld (pv 0) rfl) pa_nil)))
      (pss_cons (ps_for PassesOwn.never rfl (pi_range2 rfl z_range (pa_cons pe_int (pa_cons pe_int pa_nil))) (pg_name (i := 2) scLPer.nd rfl (Or.inl rfl)) (pss_cons (ps_set (i := 3) scLPer.nd rfl (Or.inl rfl) (pe_cal c_law_later hr (by rfl) (pa_cons (pe_fld (pv 0) rfl) (pa_cons (pe_op op_mulA (pv 2) (pe_fld (pv 0) rfl)) pa_nil))))
      (pss_one (ps_if (PW.pt (pw_and (pt_cmpR op_lt (pv 3) (pe_fld (pv 0) rfl) (nomark _)) (pw_and1 (pt_cmpR op_lt (pe_ix ix_list (pv 1) (pe_op op_sub (pv 2) pe_int) (fun _ _ => rfl)) (pe_fld (pv 0) rfl) (nomark _))))) (pss_one (ps_expr (pe_bm PySem.F.plainAttrs_list PySem.F.slot_list_append PySem.F.type_list_append mt_append (pv 1) (pa_cons (pv 3) pa_nil)))) (pss_one (ps_expr (pe_bm PySem.F.plainAttrs_list PySem.F.slot_list_append PySem.F.type_list_append mt_append (pv 1) (pa_cons (pe_fld (pv 0) rfl) pa_nil))))))))
      (pss_cons (ps_set (i := 4) scLPer.nd rfl (Or.inl rfl) (pe_lst pa_nil))
      (pss_cons (ps_for PassesOwn.never rfl (pi_range1 rfl z_range (pa_cons (pe_op op_sub (pe_callB call_len_seq (by rfl) z_len PySem.boot_len (pa_cons (pv 1) pa_nil)) pe_int) pa_nil)) (pg_name (i := 2) scLPer.nd rfl (Or.inl rfl)) (pss_one (ps_if (pt_cmpR op_lt (pe_ix ix_list (pv 1) (pv 2) (fun _ _ => rfl)) (pe_ix ix_list (pv 1) (pe_op op_add (pv 2) pe_int) (fun _ _ => rfl)) (nomark _)) (pss_one (ps_expr (pe_bm PySem.F.plainAttrs_list PySem.F.slot_list_append PySem.F.type_list_append mt_append (pv 4) (pa_cons (pe_tup (pa_cons (pe_ix ix_list (pv 1) (pv 2) (fun _ _ => rfl)) (pa_cons (pe_ix ix_list (pv 1) (pe_op op_add (pv 2) pe_int) (fun _ _ => rfl)) (pa_cons (pe_callB (call_max2 rfl) (by rfl) z_max (by decide +kernel) (pa_cons (pe_ix ix_list (pv 1) (pv 2) (fun _ _ => rfl)) (pa_cons (pe_cal c_law_adjusted hr (by rfl) (pa_cons (pe_ix ix_list (pv 1) (pe_op op_add (pv 2) pe_int) (fun _ _ => rfl)) (pa_cons (pe_fld (pv 0) rfl) pa_nil))) pa_nil))) pa_nil)))) pa_nil)))) pss_nil)))
      (pss_one (ps_ret (pv 4))))))), ?_⟩
  have hp : Bo b := hp
  have big : (2000 : Nat) ≤ sizeLine := by decide
  refine go_ms fun hMS => ?_
  refine go_newN (t := tInt) (xs := (List.range 1).map (dB b)) (El.go (el_cons (ev_fld 1 (ev_var rfl) BC.cl BC.n5) el_nil) (by show [b.first] = [dB b 0]; rw [dB_0 hp])) (by show 1 ≤ sizeLine; decide) fun p np => ?_
  refine go_seq (go_for (ι := Unit) (iv_range2 ev_int ev_int (by decide) (by decide) (by decide) (by decide)) tgt_name (fun i _ => ([cell p (cLs tInt ((List.range (i + 1)).map (dB b)))], [some ((tB9 K CB).is b), some (tRf.is p), none, none, none])) (fun _ _ => True) () trivial (fun σ H o => o.sb (by walk_at "sb")) (fun i _ x f hx _ => ?_) (fun _ _ σ H o => ?_))
  · have hi : i < 39 := by
      have := (List.getElem?_eq_some_iff.mp hx).1
      rw [List.length_map, List.length_range] at this
      exact this
    obtain rfl : x = ((i + 1 : Nat) : Int) := by
      rw [List.getElem?_map, List.getElem?_range (show i < ((40 : Int) - 1).toNat from hi)] at hx
      have hx : x = 1 + (i : Int) := (Option.some.inj hx).symm
      rw [hx]
      omega
    have m1 := hp.m1
    have m2 := hp.m2
    have s1 : ((List.range (i + 1)).map (dB b))[i]? = some (dB b i) := by
      rw [List.getElem?_map, List.getElem?_range (by omega)]; rfl
    have mm : ((i + 1 : Nat) : Int) * b.months = b.months * ((i + 1 : Nat) : Int) := Int.mul_comm _ _
    refine go_set (x := lat b.first (b.months * ((i + 1 : Nat) : Int))) (ev_call (z := (b.first, b.months * ((i + 1 : Nat) : Int))) (ea_cons (ev_fld 1 (ev_var rfl) BC.cl BC.n5) (ea_cons (ev_is (ev_mul (ev_var rfl) (ev_fld 3 (ev_var rfl) BC.cl BC.n7) (mulZ (Nat.lt_of_lt_of_le (show (((i + 1 : Nat) : Int)).natAbs < 2 ^ 10 by omega) (Nat.pow_le_pow_right (by decide) (by decide))) (Nat.lt_of_lt_of_le (show b.months.natAbs < 2 ^ 10 by omega) (Nat.pow_le_pow_right (by decide) (by decide))))) mm) ea_nil)) ⟨hp.f0, Int.mul_nonneg (by omega) (by omega)⟩) ?_
    have grow : (List.range (i + 1 + 1)).map (dB b) = (List.range (i + 1)).map (dB b) ++ [dB b (i + 1)] := by
      rw [List.range_succ, List.map_append]; rfl
    have len : ((List.range (i + 1)).map (dB b)).length < sizeLine := by
      rw [List.length_map, List.length_range]
      exact Nat.lt_of_lt_of_le (show i + 1 < 2000 by omega) big
    refine go_if (et_is (et_and (et_of (ev_cmp (ev_var rfl) (ev_fld 2 (ev_var rfl) BC.cl BC.n6))) fun _ => et_of (ev_cmp (ev_ixC (t := tInt) (xs := (List.range (i + 1)).map (dB b)) rfl (List.mem_cons_self ..) (ev_is (ev_sub (ev_var rfl) ev_int) (show ((i + 1 : Nat) : Int) - 1 = (i : Int) by omega)) (atI_nat s1)) (ev_fld 2 (ev_var rfl) BC.cl BC.n6))) (hp.next i)) (fun h => ?_) (fun h => ?_)
    · refine go_app1 (p := p) (t := tInt) (xs := (List.range (i + 1)).map (dB b)) (R := []) rfl (List.Perm.refl _) (ev_is (ev_var rfl) (show _ = dB b (i + 1) from (dB_lt (of_decide_eq_true h)).symm)) len fun σ H o => ⟨(), trivial, ?_⟩
      show Ok ⟨H0, [], p :: S, [cell p (cLs tInt ((List.range (i + 1 + 1)).map (dB b)))], [f], [some ((tB9 K CB).is b), some (tRf.is p), none, none, none]⟩ σ H
      rw [grow]
      exact o.sb (by walk_at "sb")
    · refine go_app1 (p := p) (t := tInt) (xs := (List.range (i + 1)).map (dB b)) (R := []) rfl (List.Perm.refl _) (ev_is (ev_fld 2 (ev_var rfl) BC.cl BC.n6) (show _ = dB b (i + 1) from (dB_ge (Nat.le_of_not_lt (of_decide_eq_false h))).symm)) len fun σ H o => ⟨(), trivial, ?_⟩
      show Ok ⟨H0, [], p :: S, [cell p (cLs tInt ((List.range (i + 1 + 1)).map (dB b)))], [f], [some ((tB9 K CB).is b), some (tRf.is p), none, none, none]⟩ σ H
      rw [grow]
      exact o.sb (by walk_at "sb")
  have l39 : ((List.range ((40 : Int) - 1).toNat).map fun (k : Nat) => (1 : Int) + (k : Int)).length + 1 = 40 := by
    rw [List.length_map, List.length_range]; rfl
  dsimp only at o ⊢
  rw [l39] at o
  refine go_at o ?_
  refine go_frz (K := K) (i := 1) rfl hMS np hMS ?_
  refine go_newN (t := tI3 K) el_nil (by show 0 ≤ sizeLine; decide) fun q nq => ?_
  have D40 : ∀ j, j < 40 → ((List.range 40).map (dB b))[j]? = some (dB b j) := fun j hj => by
    rw [List.getElem?_map, List.getElem?_range hj]; rfl
  refine go_seq (go_for (ι := Unit) (iv_range1 (n := 39) (ev_is (ev_sub (ev_len (ev_var rfl)) ev_int) (by rw [List.length_map, List.length_range]; rfl)) (by decide) (by decide)) tgt_name (fun i _ => ([cell q (cLs (tI3 K) ((List.range (min i (nB b))).map (rowB b)))], [some ((tB9 K CB).is b), some ((tLs K tInt).is ((List.range 40).map (dB b))), none, none, some (tRf.is q)])) (fun _ _ => True) () trivial (fun σ H o => by
    show Ok ⟨H0, [], q :: S, [cell q (cLs (tI3 K) ((List.range (min 0 (nB b))).map (rowB b)))], [], _⟩ σ H
    rw [Nat.zero_min]
    exact o.sb (by walk_at "sb")) (fun i _ x f hx _ => ?_) (fun _ _ σ H o => ?_))
  · have hi : i < 39 := by
      have := (List.getElem?_eq_some_iff.mp hx).1
      rw [List.length_map, List.length_range] at this
      exact this
    obtain rfl : x = (i : Int) := by
      rw [List.getElem?_map, List.getElem?_range (show i < (39 : Int).toNat from hi)] at hx
      exact (Option.some.inj hx).symm
    have ev1 : ((i : Int) + 1) = ((i + 1 : Nat) : Int) := by omega
    refine go_if (et_is (et_of (ev_cmp (ev_ixL (ev_var rfl) (ev_var rfl) (atI_nat (D40 i (by omega)))) (ev_ixL (ev_var rfl) (ev_is (ev_add (ev_var rfl) ev_int) ev1) (atI_nat (D40 (i + 1) (by omega)))))) (hp.up i)) (fun h => ?_) (fun h => go_next fun σ H o => ⟨(), trivial, ?_⟩)
    · have h := of_decide_eq_true h
      refine go_app1 (p := q) (t := tI3 K) (xs := (List.range (min i (nB b))).map (rowB b)) (R := []) rfl (List.Perm.refl _) (ev_is (ev_t3 (ev_ixL (ev_var rfl) (ev_var rfl) (atI_nat (D40 i (by omega)))) (ev_ixL (ev_var rfl) (ev_is (ev_add (ev_var rfl) ev_int) ev1) (atI_nat (D40 (i + 1) (by omega)))) (ev_max (ev_ixL (ev_var rfl) (ev_var rfl) (atI_nat (D40 i (by omega)))) (ev_call (z := (dB b (i + 1), b.adjust)) (ea_cons (ev_ixL (ev_var rfl) (ev_is (ev_add (ev_var rfl) ev_int) ev1) (atI_nat (D40 (i + 1) (by omega)))) (ea_cons (ev_fld 5 (ev_var rfl) BC.cl BC.n9) ea_nil)) ⟨hp.dnn _, hp.ad⟩))) (show _ = rowB b i from rfl)) (by
        rw [List.length_map, List.length_range]
        exact Nat.lt_of_lt_of_le (show min i (nB b) < 2000 by omega) big) fun σ H o => ⟨(), trivial, ?_⟩
      show Ok ⟨H0, [], q :: S, [cell q (cLs (tI3 K) ((List.range (min (i + 1) (nB b))).map (rowB b)))], [f], [some ((tB9 K CB).is b), some ((tLs K tInt).is ((List.range 40).map (dB b))), none, none, some (tRf.is q)]⟩ σ H
      have e1 : min i (nB b) = i := by omega
      have e2 : min (i + 1) (nB b) = i + 1 := by omega
      rw [e2, List.range_succ, List.map_append]
      rw [e1] at o
      exact o.sb (by walk_at "sb")
    · have h := of_decide_eq_false h
      show Ok ⟨H0, [], q :: S, [cell q (cLs (tI3 K) ((List.range (min (i + 1) (nB b))).map (rowB b)))], [f], [some ((tB9 K CB).is b), some ((tLs K tInt).is ((List.range 40).map (dB b))), none, none, some (tRf.is q)]⟩ σ H
      have e1 : min (i + 1) (nB b) = min i (nB b) := by omega
      rw [e1]
      exact o.sb (by walk_at "sb")
  have l2 : min ((List.range (39 : Int).toNat).map fun (i : Nat) => (i : Int)).length (nB b) = nB b := by
    rw [List.length_map, List.length_range]
    have := hp.n2
    show min 39 (nB b) = nB b
    omega
  dsimp only at o ⊢
  rw [l2] at o
  refine go_at o ?_
  refine go_frz (K := K) (i := 4) rfl hMS nq hMS ?_
  exact go_end (y := rowsB b) (ev_var rfl) out
end
end Cs
set_option maxHeartbeats 4000000
namespace Cs
open PySem PySem.Spec PyProof.Rows L2
local macro_rules | `(tactic| walk_at "rd") => `(tactic| (first
  | (refine ⟨_, rfl, ?_⟩)
  | (refine ⟨_, _, rfl, rfl, ?_⟩)
  | (refine .inl ⟨_, rfl, ?_⟩)
  | (refine .inr ⟨_, rfl, ?_⟩)
  | (refine ⟨_, _, _, _, rfl, rfl, SqL.of upd_same, rfl, ?_⟩)
  | (refine ⟨_, _, _, _, rfl, rfl, upd_same, rfl, ?_⟩)
  | (refine ⟨_, ?xs, _, ?v, rfl, rfl, ?h, ?x, ?_⟩; (case h => first | exact SqL.of (by assumption) | exact SqT.of (by assumption) | assumption); (case x => first | rfl | exact atI_nat (j := 0) rfl | exact atI_nat (j := 1) rfl))))
local macro_rules | `(tactic| walk_at "isi") => `(tactic| (first
  | (refine ⟨_, _, _, _, _, rfl, .ty _, .base (.int _), kit_ty kit_it, ?_⟩)
  | (refine ⟨_, _, _, _, _, rfl, .ty _, .base (.int _), kit_ty kit_ib, ?_⟩)
  | (refine ⟨_, _, _, _, _, rfl, .ty _, .base (.int _), kit_ty kit_ii, ?_⟩)
  | (refine ⟨_, _, _, _, _, rfl, .ty _, .base (.bl _), kit_ty kit_bt, ?_⟩)
  | (refine ⟨_, _, _, _, _, rfl, .ty _, .base (.bl _), kit_ty kit_bb, ?_⟩)
  | (refine ⟨_, _, _, _, _, rfl, .ty _, .base (.bl _), kit_ty kit_bi, ?_⟩)))
local macro_rules | `(tactic| walk_at "ev") => `(tactic| (first
  | exact ev_var rfl
  | exact ev_int
  | exact ev_str
  | exact ev_bl
  | exact ev_non
  | (refine ev_add ?_ ?_ <;> walk_at "ev")
  | (refine ev_sub ?_ ?_ <;> walk_at "ev")
  | (refine ev_mul ?_ ?_ ?_ <;> (try walk_at "ev"))
  | (refine ev_neg ?_ <;> walk_at "ev")
  | (refine ev_num ?_ <;> walk_at "ev")
  | (refine ev_den ?_ <;> walk_at "ev")
  | (refine ev_cmp ?_ ?_ <;> walk_at "ev")
  | (refine ev_eqI ?_ ?_ <;> walk_at "ev")
  | (refine ev_eqS ?_ ?_ <;> walk_at "ev")
  | (refine ev_neI ?_ ?_ <;> walk_at "ev")
  | (refine ev_neS ?_ ?_ <;> walk_at "ev")
  | (refine ev_inS ?_ ?_ <;> walk_at "ev")
  | (refine ev_niS ?_ ?_ <;> walk_at "ev")
  | (refine ev_len ?_ <;> walk_at "ev")
  | (refine ev_list ?_ <;> walk_at "ev")
  | (refine ev_listRev ?_ <;> walk_at "ev")
  | (refine ev_int1 ?_ <;> walk_at "ev")))
local macro_rules | `(tactic| walk_at "ea") => `(tactic| (first
  | exact ea_nil
  | (refine ea_cons ?_ ?_ <;> (first | walk_at "ev" | walk_at "ea" | skip))))
local macro_rules | `(tactic| walk_at "sb") => `(tactic| (first | exact True.intro | (refine And.intro rfl ?_; walk_at "sb")))
local macro_rules | `(tactic| walk_at "subt") => `(tactic| repeat (first | exact List.nil_sublist _ | apply List.Sublist.cons₂ | apply List.Sublist.cons))
section
variable {P : Program} {w : World} {K : PySem.W.Frag} {mg : Str → Option Value} {base : Heap}
/-! ### sums over the periods -/
theorem rsum_split {α : Type} {A B : α → Bool} {g : α → Rat} : ∀ {l : List α}, (∀ r ∈ l, ¬ (A r = true ∧ B r = true)) → rsum ((l.filter fun r => A r || B r).map g) = rsum ((l.filter A).map g) + rsum ((l.filter B).map g)
  | [], _ => by show (0 : Rat) = 0 + 0; grind
  | r :: l, h => by
    have ih := rsum_split (l := l) (A := A) (B := B) (g := g) fun s m => h s (List.mem_cons_of_mem _ m)
    have h0 := h r (List.mem_cons_self ..)
    cases a : A r <;> cases b : B r
    · rw [List.filter_cons_of_neg (by rw [a, b]; decide), List.filter_cons_of_neg (by rw [a]; decide), List.filter_cons_of_neg (by rw [b]; decide)]
      exact ih
    · rw [List.filter_cons_of_pos (by rw [a, b]; rfl), List.filter_cons_of_neg (by rw [a]; decide), List.filter_cons_of_pos b, List.map_cons, List.map_cons, rsum_cons, rsum_cons, ih]
      grind
    · rw [List.filter_cons_of_pos (by rw [a]; rfl), List.filter_cons_of_pos a, List.filter_cons_of_neg (by rw [b]; decide), List.map_cons, List.map_cons, rsum_cons, rsum_cons, ih]
      grind
    · exact absurd ⟨a, b⟩ h0
theorem rsum_if {α : Type} {A : α → Bool} {g : α → Rat} : ∀ {l : List α}, rsum (l.map fun r => if A r = true then g r else 0) = rsum ((l.filter A).map g)
  | [] => rfl
  | r :: l => by
    rw [List.map_cons, rsum_cons, rsum_if (l := l)]
    cases a : A r
    · rw [List.filter_cons_of_neg (by rw [a]; decide), if_neg (by decide)]
      grind
    · rw [List.filter_cons_of_pos a, List.map_cons, rsum_cons, if_pos rfl]
theorem rsum_add2 {α : Type} {g h : α → Rat} : ∀ {l : List α}, rsum (l.map fun r => g r + h r) = rsum (l.map g) + rsum (l.map h)
  | [] => by show (0 : Rat) = 0 + 0; grind
  | r :: l => by
    rw [List.map_cons, List.map_cons, List.map_cons, rsum_cons, rsum_cons, rsum_cons, rsum_add2 (l := l)]
    grind
noncomputable def inI (x : DA) (r : I3) : Rat := itU x.b x.m r.1 r.2.1
noncomputable def gP (x : DA) (r : I3) : Rat := if r.2.2 ≤ x.d then inI x r else if r.1 < x.d then itU x.b x.m r.1 (mnI r.2.1 x.d) else 0
noncomputable def partsV (x : DA) : Rat := rsum ((rowsB x.b).map (gP x))
section
variable {x : DA}
theorem gP_q (h : Pq x) {r : I3} (m : r ∈ rowsB x.b) (hd : 0 ≤ x.d) : Bq 1 (gP x r) := by
  obtain ⟨hb, hm⟩ := h
  have ro := hb.rows m
  have := ro.a0
  have := ro.ab
  have := ro.b1
  unfold gP
  split
  · exact itU_q hb (hm r m) ro.a0 (by omega) (by omega) (by omega)
  · split
    · exact itU_q hb (hm r m) ro.a0 (by omega) (by unfold mnI; split <;> omega) (by unfold mnI; split <;> omega)
    · exact Bq.zero.mono (by decide)
theorem inI_q (h : Pq x) {r : I3} (m : r ∈ rowsB x.b) : Bq 1 (inI x r) := by
  obtain ⟨hb, hm⟩ := h
  have ro := hb.rows m
  have := ro.a0
  have := ro.ab
  have := ro.b1
  exact itU_q hb (hm r m) ro.a0 (by omega) (by omega) (by omega)
/-- the interests of the periods that are paid before the day, on it, and of those that run -/
theorem parts_eq : partsV x = rsum (((rowsB x.b).filter fun r => decide (r.2.2 < x.d)).map (inI x)) + rsum (cpL x) + acV x := by
  have e1 : partsV x = rsum ((rowsB x.b).map fun r => (if decide (r.2.2 < x.d) = true then inI x r else 0) + ((if decide (r.2.2 = x.d) = true then inI x r else 0) + (if (decide (r.1 < x.d) && decide (x.d < r.2.2)) = true then itU x.b x.m r.1 (mnI r.2.1 x.d) else 0))) := by
    unfold partsV
    congr 1
    refine List.map_congr_left fun r _ => ?_
    rcases Int.lt_trichotomy r.2.2 x.d with h | h | h
    · have e : gP x r = inI x r := if_pos (by omega)
      have c1 : (if decide (r.2.2 < x.d) = true then inI x r else (0 : Rat)) = inI x r := if_pos (decide_eq_true h)
      have c2 : (if decide (r.2.2 = x.d) = true then inI x r else (0 : Rat)) = 0 := if_neg (by simp only [decide_eq_true_eq]; omega)
      have c3 : (if (decide (r.1 < x.d) && decide (x.d < r.2.2)) = true then itU x.b x.m r.1 (mnI r.2.1 x.d) else (0 : Rat)) = 0 := if_neg (by simp only [Bool.and_eq_true, decide_eq_true_eq]; omega)
      rw [e, c1, c2, c3]
      grind
    · have e : gP x r = inI x r := if_pos (by omega)
      have c1 : (if decide (r.2.2 < x.d) = true then inI x r else (0 : Rat)) = 0 := if_neg (by simp only [decide_eq_true_eq]; omega)
      have c2 : (if decide (r.2.2 = x.d) = true then inI x r else (0 : Rat)) = inI x r := if_pos (decide_eq_true h)
      have c3 : (if (decide (r.1 < x.d) && decide (x.d < r.2.2)) = true then itU x.b x.m r.1 (mnI r.2.1 x.d) else (0 : Rat)) = 0 := if_neg (by simp only [Bool.and_eq_true, decide_eq_true_eq]; omega)
      rw [e, c1, c2, c3]
      grind
    · have c1 : (if decide (r.2.2 < x.d) = true then inI x r else (0 : Rat)) = 0 := if_neg (by simp only [decide_eq_true_eq]; omega)
      have c2 : (if decide (r.2.2 = x.d) = true then inI x r else (0 : Rat)) = 0 := if_neg (by simp only [decide_eq_true_eq]; omega)
      rw [c1, c2]
      by_cases c : r.1 < x.d
      · have e : gP x r = itU x.b x.m r.1 (mnI r.2.1 x.d) := by
          unfold gP
          rw [if_neg (by omega), if_pos c]
        have c3 : (if (decide (r.1 < x.d) && decide (x.d < r.2.2)) = true then itU x.b x.m r.1 (mnI r.2.1 x.d) else (0 : Rat)) = itU x.b x.m r.1 (mnI r.2.1 x.d) := if_pos (by simp only [Bool.and_eq_true, decide_eq_true_eq]; omega)
        rw [e, c3]
        grind
      · have e : gP x r = 0 := by
          unfold gP
          rw [if_neg (by omega), if_neg c]
        have c3 : (if (decide (r.1 < x.d) && decide (x.d < r.2.2)) = true then itU x.b x.m r.1 (mnI r.2.1 x.d) else (0 : Rat)) = 0 := if_neg (by simp only [Bool.and_eq_true, decide_eq_true_eq]; omega)
        rw [e, c3]
        grind
  rw [e1, rsum_add2, rsum_add2, rsum_if, rsum_if, rsum_if]
  unfold cpL acV paidOn runOn
  show _ + (rsum (List.map (inI x) _) + _) = _
  rw [Rat.add_assoc]
  rfl
end
section
variable {b : B9}
theorem dB_mono (h : Bo b) {i j : Nat} (hij : i ≤ j) : dB b i ≤ dB b j := by
  induction j with
  | zero => rw [show i = 0 by omega]; exact Int.le_refl _
  | succ j ih =>
    rcases Nat.lt_or_ge i (j + 1) with q | q
    · refine Int.le_trans (ih (by omega)) ?_
      rcases Nat.lt_or_ge j (nB b) with z | z
      · exact Int.le_of_lt (sched_up h.sch h.m1 z)
      · rw [dB_ge z, dB_ge (show nB b ≤ j + 1 by omega)]
        exact Int.le_refl _
    · rw [show i = j + 1 by omega]; exact Int.le_refl _
theorem mx_mono {a b c d : Int} (h : a ≤ c) (g : b ≤ d) : mx a b ≤ mx c d := by
  unfold mx
  split <;> split <;> omega
theorem Bo.pay (h : Bo b) {r : I3} (m : r ∈ rowsB b) : b.first ≤ r.2.2 ∧ r.2.2 ≤ lastP b := by
  obtain ⟨j, hj, rfl⟩ := List.mem_map.mp m
  have hj := List.mem_range.mp hj
  have n1 := h.n1
  constructor
  · have := (h.row hj).p0
    have := dB_mono h (Nat.zero_le j)
    rw [dB_0 h] at this
    have e : (rowB b j).1 = dB b j := rfl
    omega
  · exact mx_mono (dB_mono h (by omega)) (adj_mono (dB_mono h (by omega)))
theorem Bo.last (h : Bo b) : b.first ≤ lastP b ∧ lastP b ≤ 2010 := by
  have n1 := h.n1
  have m : rowB b (nB b - 1) ∈ rowsB b := List.mem_map.mpr ⟨_, List.mem_range.mpr (by omega), rfl⟩
  exact ⟨(h.pay m).1, (h.rows m).p1⟩
end
abbrev spParts (K : PySem.W.Frag) (CB : Addr) : Sp := spP (fun x : DA => [(tB9 K CB).is x.b, (tMp (tFr K)).is x.m, tInt.is x.d]) (tFr K) (fun x => Pq x ∧ 0 ≤ x.d) partsV
theorem ladd_fr {W : Wd} {ta tb : TE} {r s : Rat} (ha : Ev W ta (tFr K) r) (hb : Ev W tb (tFr K) s) (h1 : Sz 1000 r) (h2 : Sz 1000 s) : Ev W (tCall (spAddP K) [] E0 (tCons ta (tCons tb tNil))) (tFr K) (r + s) := ev_is (ev_call (z := ((r.num, (r.den : Int)), (s.num, (s.den : Int)))) (ea_cons (ev_raw ha) (ea_cons (ev_raw hb) ea_nil)) ⟨p2_of h1, p2_of h2⟩) (by
  show Rat.divInt _ _ + Rat.divInt _ _ = _
  rw [Rat.num_divInt_den, Rat.num_divInt_den])
theorem pre_q {α : Type} {l : List α} {g : α → Rat} {n : Nat} (h : ∀ r ∈ l, Bq n (g r)) (k : Nat) : Bq (n * k) (rpre (l.map g) k) := by
  unfold rpre
  have := Bq.sum (n := n) (rs := (l.map g).take k) fun r m => by
    obtain ⟨a, ha, rfl⟩ := List.mem_map.mp (List.mem_of_mem_take m)
    exact h a ha
  refine this.mono ?_
  rw [List.length_take]
  exact Nat.mul_le_mul_left _ (Nat.min_le_left _ _)
abbrev sLParts : Stmt := topS 68
theorem scLParts : FnScope ["bond", "rates", "day", "total_v", "row"] ["bond", "rates", "day"] (defScope sLParts) := ⟨rfl, rfl, rfl, by decide +kernel, rfl, by decide +kernel, by decide +kernel⟩
theorem ok_lparts {f CB : Addr} {fd : FuncData} {k : Nat} (F : Fun K "_law_parts" "_law_parts" sLParts f fd) (c_law_periods : Cal P w K mg base k "_law_periods" ["bond"] (spRows K CB)) (c_law_add : Cal P w K mg base k "_law_add" ["a", "b"] (spAddP K)) (c_law_interest : Cal P w K mg base k "_law_interest" ["bond", "rates", "start", "end"] (spLInt K CB)) (z_min : mg "min" = none) : FnOk P w K mg base CX0 (k + 1) f fd ["bond", "rates", "day"] (spParts K CB) := by
  refine ok_P F scLParts (fun _ => rfl) fun cdv A outer s H0 S x Q E hr hp out => ⟨_, (pss_cons (ps_set (i := 3) scLParts.nd rfl (Or.inl rfl) (pe_tup (pa_cons pe_int (pa_cons pe_int pa_nil))))
      (pss_cons (ps_for PassesOwn.never rfl (pi_list (pe_cal c_law_periods hr (by rfl) (pa_cons (pv 0) pa_nil))) (pg_name (i := 4) scLParts.nd rfl (Or.inl rfl)) (pss_one (ps_if (pt_cmpR op_le (pe_ix ix_tup (pv 4) pe_int (fun _ _ => rfl)) (pv 2) (nomark _)) (pss_one (ps_set (i := 3) scLParts.nd rfl (Or.inl rfl) (pe_cal c_law_add hr (by rfl) (pa_cons (pv 3) (pa_cons (pe_cal c_law_interest hr (by rfl) (pa_cons (pv 0) (pa_cons (pv 1) (pa_cons (pe_ix ix_tup (pv 4) pe_int (fun _ _ => rfl)) (pa_cons (pe_ix ix_tup (pv 4) pe_int (fun _ _ => rfl)) pa_nil))))) pa_nil))))) (pss_one (ps_if (pt_cmpR op_lt (pe_ix ix_tup (pv 4) pe_int (fun _ _ => rfl)) (pv 2) (nomark _)) (pss_one (ps_set (i := 3) scLParts.nd rfl (Or.inl rfl) (pe_cal c_law_add hr (by rfl) (pa_cons (pv 3) (pa_cons (pe_cal c_law_interest hr (by rfl) (pa_cons (pv 0) (pa_cons (pv 1) (pa_cons (pe_ix ix_tup (pv 4) pe_int (fun _ _ => rfl)) (pa_cons (pe_callB (call_min2 rfl) (by rfl) z_min (by decide +kernel) (pa_cons (pe_ix ix_tup (pv 4) pe_int (fun _ _ => rfl)) (pa_cons (pv 2) pa_nil))) pa_nil))))) pa_nil))))) pss_nil)))))
      (pss_one (ps_ret (pv 3))))), ?_⟩
  obtain ⟨hq, d0⟩ := hp
  have hb : Bo x.b := hq.1
  have hm : RtOk x.b x.m := hq.2
  have d0 : 0 ≤ x.d := d0
  refine go_set (t := tFr K) (x := 0) (ev_frac (K := K) ev_int ev_int rfl rfl) ?_
  refine go_seq (go_for (ι := Unit) (iv_list (ev_call (z := x.b) (ea_cons (ev_var rfl) ea_nil) hb)) tgt_name (fun k _ => ([], [some ((tB9 K CB).is x.b), some ((tMp (tFr K)).is x.m), some (tInt.is x.d), some ((tFr K).is (rpre ((rowsB x.b).map (gP x)) k)), none])) (fun _ _ => True) () trivial (fun σ H o => o.sb (by walk_at "sb")) (fun k _ r f hx _ => ?_) (fun _ _ σ H o => ?_))
  · have hr := List.mem_of_getElem? hx
    have hk : k < nB x.b := by rw [← rows_len]; exact (List.getElem?_eq_some_iff.mp hx).1
    have ro := hb.rows hr
    have a0 := ro.a0
    have ab := ro.ab
    have b1 := ro.b1
    have n1 := hb.n1
    have sT : Sz 1000 (rpre ((rowsB x.b).map (gP x)) k) := ((pre_q (fun r m => gP_q hq m d0) k).sz (by omega)).mono (by decide)
    have sg : Sz 1000 (gP x r) := ((gP_q hq hr d0).sz (by decide)).mono (by decide)
    have e1 : rpre ((rowsB x.b).map (gP x)) (k + 1) = rpre ((rowsB x.b).map (gP x)) k + gP x r := rpre_succ (by rw [List.getElem?_map, hx]; rfl)
    have done : ∀ σ H, Ok ⟨H0, [], S, [], [f], [some ((tB9 K CB).is x.b), some ((tMp (tFr K)).is x.m), some (tInt.is x.d), some ((tFr K).is (rpre ((rowsB x.b).map (gP x)) k + gP x r)), some ((tI3 K).is r)]⟩ σ H → Ok ⟨H0, [], S, [], [f], [some ((tB9 K CB).is x.b), some ((tMp (tFr K)).is x.m), some (tInt.is x.d), some ((tFr K).is (rpre ((rowsB x.b).map (gP x)) (k + 1))), none]⟩ σ H := fun σ H o => by
      rw [e1]
      exact o.sb (by walk_at "sb")
    refine go_if (et_of (ev_cmp (ev_item (n := 2) (y := r.2.2) (ev_var rfl) rfl) (ev_var rfl))) (fun h => ?_) (fun h => ?_)
    · have h := of_decide_eq_true h
      have eg : gP x r = inI x r := by unfold gP; rw [if_pos h]
      refine go_set1 (x := rpre ((rowsB x.b).map (gP x)) k + gP x r) (ladd_fr (ev_var rfl) (ev_is (ev_call (z := UA.mk x.b x.m r.1 r.2.1) (ea_cons (ev_var rfl) (ea_cons (ev_var rfl) (ea_cons (ev_item (n := 0) (y := r.1) (ev_var rfl) rfl) (ea_cons (ev_item (n := 1) (y := r.2.1) (ev_var rfl) rfl) ea_nil)))) ⟨hb, hm r hr, a0, Int.le_of_lt ab, by show r.2.1 ≤ 10000; omega⟩) eg.symm) sT sg) fun σ H o => ⟨(), trivial, done σ H o⟩
    · have h := of_decide_eq_false h
      refine go_if (et_of (ev_cmp (ev_item (n := 0) (y := r.1) (ev_var rfl) rfl) (ev_var rfl))) (fun h2 => ?_) (fun h2 => go_next fun σ H o => ⟨(), trivial, ?_⟩)
      · have h2 := of_decide_eq_true h2
        have eg : gP x r = itU x.b x.m r.1 (mnI r.2.1 x.d) := by unfold gP; rw [if_neg h, if_pos h2]
        refine go_set1 (x := rpre ((rowsB x.b).map (gP x)) k + gP x r) (ladd_fr (ev_var rfl) (ev_is (ev_call (z := UA.mk x.b x.m r.1 (mnI r.2.1 x.d)) (ea_cons (ev_var rfl) (ea_cons (ev_var rfl) (ea_cons (ev_item (n := 0) (y := r.1) (ev_var rfl) rfl) (ea_cons (ev_min (ev_item (n := 1) (y := r.2.1) (ev_var rfl) rfl) (ev_var rfl)) ea_nil)))) ⟨hb, hm r hr, a0, by show r.1 ≤ mnI r.2.1 x.d; unfold mnI; split <;> omega, by show mnI r.2.1 x.d ≤ 10000; unfold mnI; split <;> omega⟩) eg.symm) sT sg) fun σ H o => ⟨(), trivial, done σ H o⟩
      · have h2 := of_decide_eq_false h2
        have eg : gP x r = 0 := by unfold gP; rw [if_neg h, if_neg h2]
        rw [e1, eg, Rat.add_zero]
        exact o.sb (by walk_at "sb")
  · refine go_at o (go_end (y := rpre ((rowsB x.b).map (gP x)) (rowsB x.b).length) (ev_var rfl) out ?_)
    show _ = partsV x
    unfold partsV
    rw [← rpre_all, List.length_map]
end
end Cs
set_option maxHeartbeats 4000000
namespace Cs
open PySem PySem.Spec PyProof.Rows L2
local macro_rules | `(tactic| walk_at "rd") => `(tactic| (first
  | (refine ⟨_, rfl, ?_⟩)
  | (refine ⟨_, _, rfl, rfl, ?_⟩)
  | (refine .inl ⟨_, rfl, ?_⟩)
  | (refine .inr ⟨_, rfl, ?_⟩)
  | (refine ⟨_, _, _, _, rfl, rfl, SqL.of upd_same, rfl, ?_⟩)
  | (refine ⟨_, _, _, _, rfl, rfl, upd_same, rfl, ?_⟩)
  | (refine ⟨_, ?xs, _, ?v, rfl, rfl, ?h, ?x, ?_⟩; (case h => first | exact SqL.of (by assumption) | exact SqT.of (by assumption) | assumption); (case x => first | rfl | exact atI_nat (j := 0) rfl | exact atI_nat (j := 1) rfl))))
local macro_rules | `(tactic| walk_at "isi") => `(tactic| (first
  | (refine ⟨_, _, _, _, _, rfl, .ty _, .base (.int _), kit_ty kit_it, ?_⟩)
  | (refine ⟨_, _, _, _, _, rfl, .ty _, .base (.int _), kit_ty kit_ib, ?_⟩)
  | (refine ⟨_, _, _, _, _, rfl, .ty _, .base (.int _), kit_ty kit_ii, ?_⟩)
  | (refine ⟨_, _, _, _, _, rfl, .ty _, .base (.bl _), kit_ty kit_bt, ?_⟩)
  | (refine ⟨_, _, _, _, _, rfl, .ty _, .base (.bl _), kit_ty kit_bb, ?_⟩)
  | (refine ⟨_, _, _, _, _, rfl, .ty _, .base (.bl _), kit_ty kit_bi, ?_⟩)))
local macro_rules | `(tactic| walk_at "ev") => `(tactic| (first
  | exact ev_var rfl
  | exact ev_int
  | exact ev_str
  | exact ev_bl
  | exact ev_non
  | (refine ev_add ?_ ?_ <;> walk_at "ev")
  | (refine ev_sub ?_ ?_ <;> walk_at "ev")
  | (refine ev_mul ?_ ?_ ?_ <;> (try walk_at "ev"))
  | (refine ev_neg ?_ <;> walk_at "ev")
  | (refine ev_num ?_ <;> walk_at "ev")
  | (refine ev_den ?_ <;> walk_at "ev")
  | (refine ev_cmp ?_ ?_ <;> walk_at "ev")
  | (refine ev_eqI ?_ ?_ <;> walk_at "ev")
  | (refine ev_eqS ?_ ?_ <;> walk_at "ev")
  | (refine ev_neI ?_ ?_ <;> walk_at "ev")
  | (refine ev_neS ?_ ?_ <;> walk_at "ev")
  | (refine ev_inS ?_ ?_ <;> walk_at "ev")
  | (refine ev_niS ?_ ?_ <;> walk_at "ev")
  | (refine ev_len ?_ <;> walk_at "ev")
  | (refine ev_list ?_ <;> walk_at "ev")
  | (refine ev_listRev ?_ <;> walk_at "ev")
  | (refine ev_int1 ?_ <;> walk_at "ev")))
local macro_rules | `(tactic| walk_at "ea") => `(tactic| (first
  | exact ea_nil
  | (refine ea_cons ?_ ?_ <;> (first | walk_at "ev" | walk_at "ea" | skip))))
local macro_rules | `(tactic| walk_at "sb") => `(tactic| (first | exact True.intro | (refine And.intro rfl ?_; walk_at "sb")))
local macro_rules | `(tactic| walk_at "subt") => `(tactic| repeat (first | exact List.nil_sublist _ | apply List.Sublist.cons₂ | apply List.Sublist.cons))
section
variable {P : Program} {w : World} {K : PySem.W.Frag} {mg : Str → Option Value} {base : Heap}
/-! ### what a paper has paid by a day -/
theorem ev_ninC {W : Wd} {ta : TE} {i : Int} {s : Nat} {p : Addr} {ns : List Int} (hs : W.G[s]? = some (some (tRf.is p))) (hL : cell p (cLs tInt ns) ∈ W.L) (ha : Ev W ta tInt i) : Ev W (tOp (rIn K true) ta (tVar s)) tBl (!decide (i ∈ ns)) := fun σ H o Q q =>
  ha σ H o _ fun v H1 g1 r1 => by
    obtain ⟨u, h1, rfl⟩ := g1.ok.slots s _ hs
    refine ⟨.ref p, h1, ?_⟩
    obtain ⟨ob, hob, vs, rfl, al⟩ := g1.ok.at_ _ hL
    exact ⟨p, vs, rfl, .inl (SqL.of hob), by rw [show v = .int i from r1]; rfl, by rw [ints_of al]; simp [List.all_map, flatV], q _ H1 g1 (by
      rw [show v = .int i from r1]
      show V.bl (!inV (.int i) vs) = _
      rw [inV_int (ints_of al)])⟩
def tUn {α β : Type} (a : Ty α) (b : Ty β) : Ty (α ⊕ β) := ⟨fun H v x => match x with
  | .inl y => a.r H v y
  | .inr y => b.r H v y, fun {H H' v x} e h => by
  cases x with
  | inl y => exact a.mono e h
  | inr y => exact b.mono e h⟩
theorem ev_inl {α β : Type} {W : Wd} {te : TE} {a : Ty α} {b : Ty β} {x : α} (h : Ev W te a x) : Ev W te (tUn a b) (.inl x) := ev_to h fun _ _ r => r
theorem ev_inr {α β : Type} {W : Wd} {te : TE} {a : Ty α} {b : Ty β} {x : β} (h : Ev W te b x) : Ev W te (tUn a b) (.inr x) := ev_to h fun _ _ r => r
theorem ev_ofl {α β : Type} {W : Wd} {te : TE} {a : Ty α} {b : Ty β} {x : α} (h : Ev W te (tUn a b) (.inl x)) : Ev W te a x := ev_to h fun _ _ r => r
theorem ev_ofr {α β : Type} {W : Wd} {te : TE} {a : Ty α} {b : Ty β} {x : β} (h : Ev W te (tUn a b) (.inr x)) : Ev W te b x := ev_to h fun _ _ r => r
noncomputable def doneV (x : DA) (c : List Int) : Rat := rsum (((rowsB x.b).filter fun r => decide (r.2.2 ∈ c)).map (inI x))
noncomputable def befV (x : DA) : Rat := rsum (((rowsB x.b).filter fun r => decide (r.2.2 < x.d)).map (inI x))
def okC (z : Str) : Bool := decide (z ∈ [("coupon" : Str), "accrued"])
def incV (p : Str × Rat) : Rat := if okC p.1 = true then p.2 else 0
noncomputable def cntV (l : List (Str × Rat)) : Nat := (l.filter fun p => !okC p.1).length
noncomputable def paidV (a : FA) : List (Rat ⊕ Int) := [.inl (befV a.x + rsum ((fdV a).map incV)), .inr ((cntV (fdV a) : Nat) : Int)]
abbrev spPaid (K : PySem.W.Frag) (CB : Addr) : Sp := spP (fun a : FA => [(tB9 K CB).is a.x.b, (tMp (tFr K)).is a.x.m, tInt.is a.x.d, (tOpt tSt).is a.ev]) (tLs K (tUn (tFr K) tInt)) (fun a => Pq a.x ∧ a.ev ≠ some ("call" : Str) ∧ a.x.d ≤ lastP a.x.b) paidV
section
variable {x : DA} {a : FA}
theorem fil_q {A : I3 → Bool} (h : Pq x) : Bq 1000 (rsum (((rowsB x.b).filter A).map (inI x))) := by
  have := Bq.sum (n := 1) (rs := ((rowsB x.b).filter A).map (inI x)) fun r m => by
    obtain ⟨y, hy, rfl⟩ := List.mem_map.mp m
    exact inI_q h (List.mem_filter.mp hy).1
  refine this.mono ?_
  rw [List.length_map]
  have h1 := List.length_filter_le A (rowsB x.b)
  have h2 := rows_len (b := x.b)
  have h3 := h.1.n1
  omega
theorem ac_q (h : Pq x) (hd : 0 ≤ x.d) (h1 : x.d ≤ 2010) : Bq 1000 (acV x) := by
  unfold acV runOn
  have := Bq.sum (n := 1) (rs := ((rowsB x.b).filter fun r => decide (r.1 < x.d) && decide (x.d < r.2.2)).map fun r => itU x.b x.m r.1 (mnI r.2.1 x.d)) fun r m => by
    obtain ⟨y, hy, rfl⟩ := List.mem_map.mp m
    have my := (List.mem_filter.mp hy).1
    have ro := h.1.rows my
    have a0 := ro.a0
    have ab := ro.ab
    have b1 := ro.b1
    exact itU_q h.1 (h.2 y my) a0 (by omega) (by unfold mnI; split <;> omega) (by unfold mnI; split <;> omega)
  refine this.mono ?_
  rw [List.length_map]
  have h1 := List.length_filter_le (fun r : I3 => decide (r.1 < x.d) && decide (x.d < r.2.2)) (rowsB x.b)
  have h2 := rows_len (b := x.b)
  have h3 := h.1.n1
  omega
theorem cp_q (h : Pq x) : Bq 1000 (rsum (cpL x)) := fil_q h
theorem inc_q (h : Pq a.x) {p : Str × Rat} (m : p ∈ fdV a) : Bq 1000 (incV p) := by
  have z : Bq 1000 0 := Bq.zero.mono (by decide)
  unfold fdV at m
  split at m
  · cases m
  rename_i hn
  have f0 := h.1.f0
  have l2 := h.1.last
  have hd : 0 ≤ a.x.d := by omega
  have h1 : a.x.d ≤ 2010 := by omega
  rcases List.mem_append.mp m with m | m
  · rcases List.mem_append.mp m with m | m
    · unfold cpV at m
      split at m
      · cases m
      · obtain rfl := List.mem_singleton.mp m
        exact cp_q h
    · unfold midV at m
      split at m
      · obtain rfl := List.mem_singleton.mp m
        exact z
      · split at m
        · obtain rfl := List.mem_singleton.mp m
          exact z
        · cases m
  · unfold finV at m
    split at m
    · obtain rfl := List.mem_singleton.mp m
      exact ac_q h hd h1
    · cases m
theorem fd_len : (fdV a).length ≤ 3 := by
  unfold fdV
  split
  · exact Nat.zero_le _
  have h1 := cp_len a.x
  have h2 := mid_len a
  have h3 : (finV a).length ≤ 1 := by
    unfold finV
    split
    · show 1 ≤ 1; decide
    · exact Nat.zero_le _
  rw [List.length_append, List.length_append]
  omega
/-- on a day before the last one, with no event: one coupon -/
theorem fd_one (h : Bo x.b) {r : I3} (m : r ∈ rowsB x.b) (hl : r.2.2 < lastP x.b) : fdV ⟨⟨x.b, r.2.2, x.m⟩, none⟩ = [(("coupon" : Str), rsum (cpL ⟨x.b, r.2.2, x.m⟩))] := by
  have hp := h.pay m
  have n0 : ¬ (r.2.2 < x.b.first ∨ lastP x.b < r.2.2) := by omega
  have n1 : ¬ r.2.2 = lastP x.b := by omega
  have ne : (cpL ⟨x.b, r.2.2, x.m⟩).isEmpty = false := by
    have mm : r ∈ paidOn ⟨x.b, r.2.2, x.m⟩ := List.mem_filter.mpr ⟨m, by simp⟩
    unfold cpL
    cases e : paidOn ⟨x.b, r.2.2, x.m⟩ with
    | nil => rw [e] at mm; cases mm
    | cons _ _ => rfl
  unfold fdV cpV midV finV
  dsimp only
  rw [if_neg n0, if_neg (by rw [ne]; decide), if_neg (by decide), if_neg n1, if_neg (by decide)]
  rfl
theorem done_cp (c : List Int) {r : I3} (hr : r.2.2 ∉ c) : doneV x (c ++ [r.2.2]) = doneV x c + rsum (cpL ⟨x.b, r.2.2, x.m⟩) := by
  unfold doneV
  have e : ((rowsB x.b).filter fun s => decide (s.2.2 ∈ c ++ [r.2.2])) = (rowsB x.b).filter fun s => decide (s.2.2 ∈ c) || decide (s.2.2 = r.2.2) := by
    refine List.filter_congr fun s _ => ?_
    rw [← Bool.decide_or]
    exact decide_eq_decide.mpr (by rw [List.mem_append, List.mem_singleton])
  rw [e, rsum_split]
  · rfl
  · intro s _ hs
    have h1 := of_decide_eq_true hs.1
    have h2 := of_decide_eq_true hs.2
    rw [h2] at h1
    exact hr h1
end
abbrev sLPaid : Stmt := topS 69
theorem scLPaid : FnScope ["bond", "rates", "day", "event", "total_v", "principals", "done", "row", "pair"] ["bond", "rates", "day", "event"] (defScope sLPaid) := ⟨rfl, rfl, rfl, by decide +kernel, rfl, by decide +kernel, by decide +kernel⟩
theorem ok_lpaid {f CB : Addr} {fd : FuncData} {k : Nat} (F : Fun K "_law_paid" "_law_paid" sLPaid f fd) (c_law_periods : Cal P w K mg base k "_law_periods" ["bond"] (spRows K CB)) (c_law_add : Cal P w K mg base k "_law_add" ["a", "b"] (spAddP K)) (c_falls_due1 : CalD P w K mg base k "falls_due" ["bond", "day", "period_rates", "event"] [.non] (spFalls K CB)) (k_falls_due : CalK P w K mg base k "falls_due" ["bond", "day", "period_rates", "event"] 3 ["event"] (spFalls K CB)) : FnOk P w K mg base CX0 (k + 1) f fd ["bond", "rates", "day", "event"] (spPaid K CB) := by
  refine ok_P F scLPaid (fun _ => rfl) fun cdv A outer s H0 S a Q E hr hp out => ⟨_, (pss_cons (ps_set (i := 4) scLPaid.nd rfl (Or.inl rfl) (pe_tup (pa_cons pe_int (pa_cons pe_int pa_nil))))
      (pss_cons (ps_set (i := 5) scLPaid.nd rfl (Or.inl rfl) pe_int)
      (pss_cons (ps_set (i := 6) scLPaid.nd rfl (Or.inl rfl) (pe_lst pa_nil))
      (pss_cons (ps_for PassesOwn.never rfl (pi_list (pe_cal c_law_periods hr (by rfl) (pa_cons (pv 0) pa_nil))) (pg_name (i := 7) scLPaid.nd rfl (Or.inl rfl)) (pss_one (ps_if (PW.pt (pw_and (pt_cmpR op_lt (pe_ix ix_tup (pv 7) pe_int (fun _ _ => rfl)) (pv 2) (nomark _)) (pw_and1 (pt_cmpR op_notIn_seq (pe_ix ix_tup (pv 7) pe_int (fun _ _ => rfl)) (pv 6) (by rfl))))) (pss_cons (ps_expr (pe_bm PySem.F.plainAttrs_list PySem.F.slot_list_append PySem.F.type_list_append mt_append (pv 6) (pa_cons (pe_ix ix_tup (pv 7) pe_int (fun _ _ => rfl)) pa_nil)))
      (pss_one (ps_for PassesOwn.never rfl (pi_list (pe_calD c_falls_due1 hr (by rfl) (pa_cons (pv 0) (pa_cons (pe_ix ix_tup (pv 7) pe_int (fun _ _ => rfl)) (pa_cons (pv 1) pa_nil))))) (pg_name (i := 8) scLPaid.nd rfl (Or.inl rfl)) (pss_one (ps_if (pt_cmpR op_eq (pe_ix ix_tup (pv 8) pe_int (fun _ _ => rfl)) pe_str (nomark _)) (pss_one (ps_set (i := 4) scLPaid.nd rfl (Or.inl rfl) (pe_cal c_law_add hr (by rfl) (pa_cons (pv 4) (pa_cons (pe_ix ix_tup (pv 8) pe_int (fun _ _ => rfl)) pa_nil))))) (pss_one (ps_set (i := 5) scLPaid.nd rfl (Or.inl rfl) (pe_op op_add (pv 5) pe_int)))))))) pss_nil)))
      (pss_cons (ps_for PassesOwn.never rfl (pi_list (pe_calK k_falls_due hr (by rfl) (pa_cons (pv 0) (pa_cons (pv 2) (pa_cons (pv 1) pa_nil))) (pk_cons (pv 3) pk_nil))) (pg_name (i := 8) scLPaid.nd rfl (Or.inl rfl)) (pss_one (ps_if (pt_cmpR op_in_seq (pe_ix ix_tup (pv 8) pe_int (fun _ _ => rfl)) (pe_lst (pa_cons pe_str (pa_cons pe_str pa_nil))) (by rfl)) (pss_one (ps_set (i := 4) scLPaid.nd rfl (Or.inl rfl) (pe_cal c_law_add hr (by rfl) (pa_cons (pv 4) (pa_cons (pe_ix ix_tup (pv 8) pe_int (fun _ _ => rfl)) pa_nil))))) (pss_one (ps_set (i := 5) scLPaid.nd rfl (Or.inl rfl) (pe_op op_add (pv 5) pe_int))))))
      (pss_one (ps_ret (pe_lst (pa_cons (pv 4) (pa_cons (pv 5) pa_nil)))))))))), ?_⟩
  obtain ⟨hq, hne, hl⟩ := hp
  have hb : Bo a.x.b := hq.1
  have hm : RtOk a.x.b a.x.m := hq.2
  have lp := hb.last
  have n1 := hb.n1
  have big : (2000 : Nat) ≤ sizeLine := by decide
  refine go_set (t := tFr K) (x := 0) (ev_frac (K := K) ev_int ev_int rfl rfl) ?_
  refine go_set ev_int ?_
  refine go_new (t := tInt) el_nil (by decide) fun p => ?_
  refine go_seq (go_for (ι := List Int) (iv_list (ev_call (z := a.x.b) (ea_cons (ev_var rfl) ea_nil) hb)) tgt_name (fun _ c => ([cell p (cLs tInt c)], [some ((tB9 K CB).is a.x.b), some ((tMp (tFr K)).is a.x.m), some (tInt.is a.x.d), some ((tOpt tSt).is a.ev), some ((tFr K).is (doneV a.x c)), some (tInt.is 0), some (tRf.is p), none, none])) (fun k c => c.length ≤ k ∧ ∀ i, i ∈ c ↔ ∃ r ∈ (rowsB a.x.b).take k, r.2.2 = i ∧ i < a.x.d) [] ⟨Nat.le_refl _, fun i => ⟨fun h => (nomatch h), fun ⟨r, h, _⟩ => by rw [List.take_zero] at h; cases h⟩⟩ (fun σ H o => ?_) (fun k c r f hx pv => ?_) (fun c pv σ H o => ?_))
  · have e : doneV a.x [] = 0 := by
      unfold doneV
      rw [List.filter_eq_nil_iff.mpr (fun r _ => by simp)]
      rfl
    rw [e]
    exact o.sb (by walk_at "sb")
  · have hrm := List.mem_of_getElem? hx
    have hk : k < nB a.x.b := by rw [← rows_len]; exact (List.getElem?_eq_some_iff.mp hx).1
    obtain ⟨cl, cm⟩ := pv
    have et : (rowsB a.x.b).take (k + 1) = (rowsB a.x.b).take k ++ [r] := by
      rw [List.take_succ, hx]
      rfl
    refine go_if (et_and (et_of (ev_cmp (ev_item (n := 2) (y := r.2.2) (ev_var rfl) rfl) (ev_var rfl))) fun _ => et_of (ev_ninC rfl (List.mem_singleton_self _) (ev_item (n := 2) (y := r.2.2) (ev_var rfl) rfl))) (fun h => ?_) (fun h => go_next fun σ H o => ⟨c, ⟨by omega, fun i => ?_⟩, o.sb (by walk_at "sb")⟩)
    · rw [Bool.and_eq_true, Bool.not_eq_true', decide_eq_true_eq, decide_eq_false_iff_not] at h
      obtain ⟨hd, hc⟩ := h
      refine go_app (p := p) (t := tInt) (xs := c) (R := []) rfl (List.Perm.refl _) (ev_item (n := 2) (y := r.2.2) (ev_var rfl) rfl) (Nat.lt_of_lt_of_le (show c.length < 2000 by omega) big) ?_
      have sS : Sz 1000 (rsum (cpL ⟨a.x.b, r.2.2, a.x.m⟩)) := ((cp_q (x := ⟨a.x.b, r.2.2, a.x.m⟩) hq).sz (by decide)).mono (by decide)
      have sT : Sz 1000 (doneV a.x c) := ((fil_q hq).sz (by decide)).mono (by decide)
      have hcall : ∀ {W : Wd} {ar : TA}, Ea W ar [(tB9 K CB).is a.x.b, tInt.is r.2.2, (tMp (tFr K)).is a.x.m] → Ev W (tCall (spFalls K CB) [.non] E0 ar) (tLs K (tPr K tSt (tFr K))) [(("coupon" : Str), rsum (cpL ⟨a.x.b, r.2.2, a.x.m⟩))] := fun h => ev_is (Evx.ev (evx_callD (C := fun _ => []) (z := (⟨⟨a.x.b, r.2.2, a.x.m⟩, none⟩ : FA)) (ds := [(tOpt tSt).is none]) h (fun H => ⟨rfl, trivial⟩) rfl ⟨hq, fun q => nomatch q⟩)) (fd_one (x := a.x) hb hrm (by omega))
      refine go_for (ι := Unit) (iv_list (hcall (ea_cons (ev_var rfl) (ea_cons (ev_item (n := 2) (y := r.2.2) (ev_var rfl) rfl) (ea_cons (ev_var rfl) ea_nil))))) tgt_name (fun j _ => ([cell p (cLs tInt (c ++ [r.2.2]))], [some ((tB9 K CB).is a.x.b), some ((tMp (tFr K)).is a.x.m), some (tInt.is a.x.d), some ((tOpt tSt).is a.ev), some ((tFr K).is (doneV a.x c + rpre [rsum (cpL ⟨a.x.b, r.2.2, a.x.m⟩)] j)), some (tInt.is 0), some (tRf.is p), some ((tI3 K).is r), none])) (fun _ _ => True) () trivial (fun σ H o => ?_) (fun j _ y g hy _ => ?_) (fun _ _ σ H o => ?_)
      · have e : rpre [rsum (cpL ⟨a.x.b, r.2.2, a.x.m⟩)] 0 = 0 := rfl
        rw [e, Rat.add_zero]
        exact o.sb (by walk_at "sb")
      · have hj : j = 0 := by
          have := (List.getElem?_eq_some_iff.mp hy).1
          have : j < 1 := this
          omega
        subst hj
        obtain rfl : (("coupon" : Str), rsum (cpL ⟨a.x.b, r.2.2, a.x.m⟩)) = y := Option.some.inj hy
        refine go_if (et_of (ev_eqS (ev_fst (ev_var rfl)) ev_str)) (fun _ => ?_) (fun h => absurd (of_decide_eq_false h) (by simp))
        have e0 : rpre [rsum (cpL ⟨a.x.b, r.2.2, a.x.m⟩)] 0 = 0 := rfl
        have e1 : rpre [rsum (cpL ⟨a.x.b, r.2.2, a.x.m⟩)] (0 + 1) = rsum (cpL ⟨a.x.b, r.2.2, a.x.m⟩) := by
          rw [rpre_succ (r := rsum (cpL ⟨a.x.b, r.2.2, a.x.m⟩)) rfl, e0]
          grind
        refine go_set1 (x := doneV a.x c + rsum (cpL ⟨a.x.b, r.2.2, a.x.m⟩)) (ladd_fr (ev_var (by rw [e0, Rat.add_zero]; rfl)) (ev_snd (ev_var rfl)) sT sS) fun σ H o => ⟨(), trivial, ?_⟩
        dsimp only
        rw [e1]
        exact o.sb (by walk_at "sb")
      · refine ⟨c ++ [r.2.2], ⟨by rw [List.length_append]; show c.length + 1 ≤ k + 1; omega, fun i => ?_⟩, ?_⟩
        · rw [et, List.mem_append, List.mem_singleton]
          constructor
          · rintro (h | rfl)
            · obtain ⟨s, hs, h2⟩ := (cm i).mp h
              exact ⟨s, List.mem_append_left _ hs, h2⟩
            · exact ⟨r, List.mem_append_right _ (List.mem_singleton_self _), rfl, hd⟩
          · rintro ⟨s, hs, h2, h3⟩
            rcases List.mem_append.mp hs with q | q
            · exact .inl ((cm i).mpr ⟨s, q, h2, h3⟩)
            · obtain rfl := List.mem_singleton.mp q
              exact .inr h2.symm
        · have e1 : rpre [rsum (cpL ⟨a.x.b, r.2.2, a.x.m⟩)] ([((("coupon" : Str)), rsum (cpL ⟨a.x.b, r.2.2, a.x.m⟩))] : List (Str × Rat)).length = rsum (cpL ⟨a.x.b, r.2.2, a.x.m⟩) := by
            show rpre [rsum (cpL ⟨a.x.b, r.2.2, a.x.m⟩)] (0 + 1) = _
            rw [rpre_succ (r := rsum (cpL ⟨a.x.b, r.2.2, a.x.m⟩)) rfl, show rpre [rsum (cpL ⟨a.x.b, r.2.2, a.x.m⟩)] 0 = 0 from rfl]
            grind
          dsimp only at o ⊢
          rw [e1, ← done_cp c hc] at o
          exact o.sb (by walk_at "sb")
    · rw [et]
      constructor
      · intro h
        obtain ⟨s, hs, h2⟩ := (cm i).mp h
        exact ⟨s, List.mem_append_left _ hs, h2⟩
      · rintro ⟨s, hs, h2, h3⟩
        rcases List.mem_append.mp hs with q | q
        · exact (cm i).mpr ⟨s, q, h2, h3⟩
        · obtain rfl := List.mem_singleton.mp q
          subst h2
          rw [Bool.and_eq_false_iff, Bool.not_eq_false', decide_eq_false_iff_not, decide_eq_true_eq] at h
          exact h.elim (fun q => absurd h3 q) id
  · obtain ⟨cl, cm⟩ := pv
    have eb : doneV a.x c = befV a.x := by
      unfold doneV befV
      congr 2
      refine List.filter_congr fun r m => decide_eq_decide.mpr ?_
      rw [cm, List.take_length]
      exact ⟨fun ⟨_, _, _, h⟩ => h, fun h => ⟨r, m, rfl, h⟩⟩
    dsimp only at o
    rw [eb] at o
    refine go_at o ?_
    have d2 : a.x.d ≤ 2010 := by omega
    refine go_seq (go_for (ι := Unit) (iv_list (ev_callK (z := a) (ea_cons (ev_var rfl) (ea_cons (ev_var rfl) (ea_cons (ev_var rfl) ea_nil))) (ea_cons (ev_var rfl) ea_nil) rfl rfl rfl ⟨hq, hne⟩)) tgt_name (fun j _ => ([cell p (cLs tInt c)], [some ((tB9 K CB).is a.x.b), some ((tMp (tFr K)).is a.x.m), some (tInt.is a.x.d), some ((tOpt tSt).is a.ev), some ((tFr K).is (befV a.x + rpre ((fdV a).map incV) j)), some (tInt.is ((cntV ((fdV a).take j) : Nat) : Int)), some (tRf.is p), none, none])) (fun _ _ => True) () trivial (fun σ H o => ?_) (fun j _ y g hy _ => ?_) (fun _ _ σ H o => ?_))
    · have e : rpre ((fdV a).map incV) 0 = 0 := rfl
      have e2 : cntV ((fdV a).take 0) = 0 := rfl
      rw [e, e2, Rat.add_zero]
      exact o.sb (by walk_at "sb")
    · have my := List.mem_of_getElem? hy
      have hj : j < 3 := Nat.lt_of_lt_of_le (List.getElem?_eq_some_iff.mp hy).1 fd_len
      have sT : Sz 1000 (befV a.x + rpre ((fdV a).map incV) j) := (((fil_q hq).add (pre_q (fun p m => inc_q hq m) j)).sz (by omega)).mono (by decide)
      have ts : (fdV a).take (j + 1) = (fdV a).take j ++ [y] := by
        rw [List.take_succ, hy]
        rfl
      have e1 : rpre ((fdV a).map incV) (j + 1) = rpre ((fdV a).map incV) j + incV y := rpre_succ (by rw [List.getElem?_map, hy]; rfl)
      have e2 : ∀ n : Nat, (!okC y.1) = decide (n = 1) → n ≤ 1 → cntV ((fdV a).take (j + 1)) = cntV ((fdV a).take j) + n := fun n h hn => by
        unfold cntV
        rw [ts, List.filter_append, List.length_append]
        congr 1
        cases c : !okC y.1
        · rw [List.filter_cons_of_neg (p := fun p : Str × Rat => !okC p.1) (show ¬ (!okC y.1) = true by rw [c]; decide)]
          rw [c] at h
          have := of_decide_eq_false h.symm
          show 0 = n
          omega
        · rw [List.filter_cons_of_pos (p := fun p : Str × Rat => !okC p.1) c]
          rw [c] at h
          have := of_decide_eq_true h.symm
          show 1 = n
          omega
      refine go_if (et_of (ev_inS (ev_fst (ev_var rfl)) (ev_lst (K := K) (el_cons ev_str (el_cons ev_str el_nil)) (by show 2 ≤ sizeLine; decide)))) (fun h => ?_) (fun h => ?_)
      · have h : okC y.1 = true := h
        have ei : incV y = y.2 := by unfold incV; rw [if_pos h]
        have sV : Sz 1000 y.2 := by
          rw [← ei]
          exact ((inc_q hq my).sz (by decide)).mono (by decide)
        refine go_set1 (x := befV a.x + rpre ((fdV a).map incV) j + y.2) (ladd_fr (ev_var rfl) (ev_snd (ev_var rfl)) sT sV) fun σ H o => ⟨(), trivial, ?_⟩
        dsimp only
        rw [e1, e2 0 (by rw [h]; rfl) (by decide), ei, ← Rat.add_assoc]
        exact o.sb (by walk_at "sb")
      · have h : okC y.1 = false := h
        have ei : incV y = 0 := by unfold incV; rw [if_neg (by rw [h]; decide)]
        refine go_set1 (x := ((cntV ((fdV a).take j) : Nat) : Int) + 1) (ev_add (ev_var rfl) ev_int) fun σ H o => ⟨(), trivial, ?_⟩
        dsimp only
        rw [e1, e2 1 (by rw [h]; rfl) (by decide), ei, Rat.add_zero]
        exact o.sb (by walk_at "sb")
    · dsimp only at o
      rw [List.take_length, show (fdV a).length = ((fdV a).map incV).length by rw [List.length_map], rpre_all] at o
      refine go_at o (go_end (y := paidV a) (ev_lst (K := K) (el_cons (ev_inl (ev_var rfl)) (el_cons (ev_inr (ev_var rfl)) el_nil)) (by show 2 ≤ sizeLine; decide)) out)
end
end Cs
set_option maxHeartbeats 4000000
namespace Cs
open PySem PySem.Spec PyProof.Rows L2
local macro_rules | `(tactic| walk_at "rd") => `(tactic| (first
  | (refine ⟨_, rfl, ?_⟩)
  | (refine ⟨_, _, rfl, rfl, ?_⟩)
  | (refine .inl ⟨_, rfl, ?_⟩)
  | (refine .inr ⟨_, rfl, ?_⟩)
  | (refine ⟨_, _, _, _, rfl, rfl, SqL.of upd_same, rfl, ?_⟩)
  | (refine ⟨_, _, _, _, rfl, rfl, upd_same, rfl, ?_⟩)
  | (refine ⟨_, ?xs, _, ?v, rfl, rfl, ?h, ?x, ?_⟩; (case h => first | exact SqL.of (by assumption) | exact SqT.of (by assumption) | assumption); (case x => first | rfl | exact atI_nat (j := 0) rfl | exact atI_nat (j := 1) rfl))))
local macro_rules | `(tactic| walk_at "isi") => `(tactic| (first
  | (refine ⟨_, _, _, _, _, rfl, .ty _, .base (.int _), kit_ty kit_it, ?_⟩)
  | (refine ⟨_, _, _, _, _, rfl, .ty _, .base (.int _), kit_ty kit_ib, ?_⟩)
  | (refine ⟨_, _, _, _, _, rfl, .ty _, .base (.int _), kit_ty kit_ii, ?_⟩)
  | (refine ⟨_, _, _, _, _, rfl, .ty _, .base (.bl _), kit_ty kit_bt, ?_⟩)
  | (refine ⟨_, _, _, _, _, rfl, .ty _, .base (.bl _), kit_ty kit_bb, ?_⟩)
  | (refine ⟨_, _, _, _, _, rfl, .ty _, .base (.bl _), kit_ty kit_bi, ?_⟩)))
local macro_rules | `(tactic| walk_at "ev") => `(tactic| (first
  | exact ev_var rfl
  | exact ev_int
  | exact ev_str
  | exact ev_bl
  | exact ev_non
  | (refine ev_add ?_ ?_ <;> walk_at "ev")
  | (refine ev_sub ?_ ?_ <;> walk_at "ev")
  | (refine ev_mul ?_ ?_ ?_ <;> (try walk_at "ev"))
  | (refine ev_neg ?_ <;> walk_at "ev")
  | (refine ev_num ?_ <;> walk_at "ev")
  | (refine ev_den ?_ <;> walk_at "ev")
  | (refine ev_cmp ?_ ?_ <;> walk_at "ev")
  | (refine ev_eqI ?_ ?_ <;> walk_at "ev")
  | (refine ev_eqS ?_ ?_ <;> walk_at "ev")
  | (refine ev_neI ?_ ?_ <;> walk_at "ev")
  | (refine ev_neS ?_ ?_ <;> walk_at "ev")
  | (refine ev_inS ?_ ?_ <;> walk_at "ev")
  | (refine ev_niS ?_ ?_ <;> walk_at "ev")
  | (refine ev_len ?_ <;> walk_at "ev")
  | (refine ev_list ?_ <;> walk_at "ev")
  | (refine ev_listRev ?_ <;> walk_at "ev")
  | (refine ev_int1 ?_ <;> walk_at "ev")))
local macro_rules | `(tactic| walk_at "ea") => `(tactic| (first
  | exact ea_nil
  | (refine ea_cons ?_ ?_ <;> (first | walk_at "ev" | walk_at "ea" | skip))))
local macro_rules | `(tactic| walk_at "sb") => `(tactic| (first | exact True.intro | (refine And.intro rfl ?_; walk_at "sb")))
local macro_rules | `(tactic| walk_at "subt") => `(tactic| repeat (first | exact List.nil_sublist _ | apply List.Sublist.cons₂ | apply List.Sublist.cons))
section
variable {P : Program} {w : World} {K : PySem.W.Frag} {mg : Str → Option Value} {base : Heap}
/-! ### the drawn paper -/
def tAny : Ty Unit := ⟨fun _ _ _ => True, fun _ h => h⟩
theorem ev_any {α : Type} {W : Wd} {te : TE} {t : Ty α} {x : α} (h : Ev W te t x) : Ev W te tAny () := ev_to h fun _ _ _ => trivial
/-- equality of a list that grows with one that doesn't -/
theorem ev_eqDg {α : Type} {W : Wd} {tb : TE} {t : Ty α} {xs ys : List α} {s : Nat} {p : Addr} [DecidableEq α] (e : Eqt K t) (hs : W.G[s]? = some (some (tRf.is p))) (hL : cell p (cLs t xs) ∈ W.L) (hb : Ev W tb (tLs K t) ys) (l1 : ((eqLs e).d xs).canLay0 = true) (l2 : ((eqLs e).d ys).canLay0 = true) (hn : (eqLs e).n ≤ 64) : Ev W (tOp (rEqD K) (tVar s) tb) tBl (decide (xs = ys)) := fun σ H o Q k => by
  obtain ⟨u, h1, rfl⟩ := o.slots s _ hs
  refine ⟨.ref p, h1, hb σ H o _ fun v2 H2 g2 r2 => ?_⟩
  obtain ⟨ob, hob, vs, rfl, al⟩ := g2.ok.at_ _ hL
  exact ⟨_, _, (show Dp K H2 (.ref p) ((eqLs e).d xs) from .lst (SqL.of hob) (dpAll_of e (All2.mono (fun _ _ => t.mono hid_sub) al))), dp_mono hid_sub ((eqLs e).dp r2), (eqLs e).shape hn l1, (eqLs e).shape hn l2, by rw [(eqLs e).dec]; exact k _ H2 g2 rfl⟩
theorem ev_lenG {α : Type} {W : Wd} {t : Ty α} {xs : List α} {s : Nat} {p : Addr} (hs : W.G[s]? = some (some (tRf.is p))) (hL : cell p (cLs t xs) ∈ W.L) : Ev W (tCB (fun xs H Q => ∃ p ys, xs = [.ref p] ∧ (SqL K H p ys ∨ SqT K H p ys) ∧ Q (.int ys.length) H) (tCons (tVar s) tNil)) tInt (xs.length : Int) := fun σ H o Q q => by
  obtain ⟨u, h1, rfl⟩ := o.slots s _ hs
  refine ⟨.ref p, h1, ?_⟩
  obtain ⟨ob, hob, vs, rfl, al⟩ := o.at_ _ hL
  exact ⟨p, vs, rfl, .inl (SqL.of hob), q _ H (Go1.refl o) (by rw [al.length]; rfl)⟩
structure A9 where
  b : B9
  units : Int
  record : Int
  calls : List (Int × Rat)
abbrev bdA9 (K : PySem.W.Frag) (z : A9) : List SF := [tSt.is "x", tSt.is "state", tInt.is z.units, (tFr K).is z.b.face, tInt.is z.b.first, tInt.is z.b.last, tInt.is z.b.months, tSt.is z.b.count, tSt.is z.b.adjust, tInt.is z.record, tAny.is (), (tLs K tAny).is [], tAny.is (), (tLs K tAny).is [], tAny.is (), (tLs K (tPr K tInt (tFr K))).is z.calls]
abbrev spBInit (K : PySem.W.Frag) (CB : Addr) : Sp := spI CB (bdA9 K) (fun _ => True) (fun z => b9F K z.b)
abbrev sBInit : Stmt := inClass (topS 49) 0
theorem scBInit : FnScope ["self", "name", "issuer", "units", "face", "first_day", "last_day", "months", "count", "adjust", "record", "rank", "lets", "coupon", "promises", "cross", "calls"] ["self", "name", "issuer", "units", "face", "first_day", "last_day", "months", "count", "adjust", "record", "rank", "lets", "coupon", "promises", "cross", "calls"] (defScope sBInit) := ⟨rfl, rfl, rfl, by decide +kernel, rfl, by decide +kernel, by decide +kernel⟩
theorem ok_binit {f CB : Addr} {fd : FuncData} {k : Nat} (F : Fun K "__init__" "Bond.__init__" sBInit f fd) (BC : BondC K CB) (z_list : mg "list" = none) : FnOk P w K mg base CX0 (k + 1) f fd ["self", "name", "issuer", "units", "face", "first_day", "last_day", "months", "count", "adjust", "record", "rank", "lets", "coupon", "promises", "cross", "calls"] (spBInit K CB) := by
  refine ok_I F scBInit (fun _ => rfl) fun cdv A outer s H0 S b a dx Q E hr hp am => ⟨_, (pss_cons (ps_fld (pv 0) (pv 1) rfl)
      (pss_cons (ps_fld (pv 0) (pv 2) rfl)
      (pss_cons (ps_fld (pv 0) (pv 3) rfl)
      (pss_cons (ps_fld (pv 0) (pv 4) rfl)
      (pss_cons (ps_fld (pv 0) (pv 5) rfl)
      (pss_cons (ps_fld (pv 0) (pv 6) rfl)
      (pss_cons (ps_fld (pv 0) (pv 7) rfl)
      (pss_cons (ps_fld (pv 0) (pv 8) rfl)
      (pss_cons (ps_fld (pv 0) (pv 9) rfl)
      (pss_cons (ps_fld (pv 0) (pv 10) rfl)
      (pss_cons (ps_fld (pv 0) (pv 11) rfl)
      (pss_cons (ps_fld (pv 0) (pe_callTy call_list_of (by rfl) z_list (by decide +kernel) (pa_cons (pv 12) pa_nil)) rfl)
      (pss_cons (ps_fld (pv 0) (pv 13) rfl)
      (pss_cons (ps_fld (pv 0) (pe_callTy call_list_of (by rfl) z_list (by decide +kernel) (pa_cons (pv 14) pa_nil)) rfl)
      (pss_cons (ps_fld (pv 0) (pv 15) rfl)
      (pss_one (ps_fld (pv 0) (pe_callTy call_list_of (by rfl) z_list (by decide +kernel) (pa_cons (pv 16) pa_nil)) rfl))))))))))))))))), fun nx out => ?_⟩
  refine go_fldS (s := 0) rfl rfl (ev_var rfl) BC.cl BC.n0 ?_
  refine go_fldS (s := 0) rfl rfl (ev_var rfl) BC.cl BC.n1 ?_
  refine go_fldS (s := 0) rfl rfl (ev_var rfl) BC.cl BC.n2 ?_
  refine go_fldS (s := 0) rfl rfl (ev_var rfl) BC.cl BC.n3 ?_
  refine go_fldS (s := 0) rfl rfl (ev_var rfl) BC.cl BC.n5 ?_
  refine go_fldS (s := 0) rfl rfl (ev_var rfl) BC.cl BC.n6 ?_
  refine go_fldS (s := 0) rfl rfl (ev_var rfl) BC.cl BC.n7 ?_
  refine go_fldS (s := 0) rfl rfl (ev_var rfl) BC.cl BC.n8 ?_
  refine go_fldS (s := 0) rfl rfl (ev_var rfl) BC.cl BC.n9 ?_
  refine go_fldS (s := 0) rfl rfl (ev_var rfl) BC.cl BC.n10 ?_
  refine go_fldS (s := 0) rfl rfl (ev_var rfl) BC.cl BC.n11 ?_
  refine go_fldS (s := 0) rfl rfl (ev_list (ev_var rfl)) BC.cl BC.n12 ?_
  refine go_fldS (s := 0) rfl rfl (ev_var rfl) BC.cl BC.n13 ?_
  refine go_fldS (s := 0) rfl rfl (ev_list (ev_var rfl)) BC.cl BC.n14 ?_
  refine go_fldS (s := 0) rfl rfl (ev_var rfl) BC.cl BC.n4 ?_
  refine go_fldS1 (s := 0) rfl rfl (ev_list (ev_var rfl)) BC.cl BC.n15 fun σ H o => out _ _ _ σ H o (fun p m => ?_)
  simp only [b9F, List.mem_cons, List.not_mem_nil, or_false] at m
  rcases m with rfl | rfl | rfl | rfl | rfl | rfl <;> simp
def bdPs : List Str := ["self", "name", "issuer", "units", "face", "first_day", "last_day", "months", "count", "adjust", "record", "rank", "lets", "coupon", "promises", "cross", "calls"]
def bdKs : List Str := ["units", "face", "first_day", "last_day", "months", "count", "adjust", "record", "rank", "lets", "coupon", "promises", "cross", "calls"]
/-- how a bond is made -/
structure MkBd (P : Program) (w : World) (K : PySem.W.Frag) (mg : Str → Option Value) (base : Heap) (k : Nat) (CB fI : Addr) (fdI : FuncData) (g : List Value → List Value → List Value) : Prop where
  mkc : Mk K CB fI
  ok : FnOk P w K mg base CX0 k fI fdI bdPs (spBInit K CB)
  m : mg "Bond" = some (.ref CB)
  kb : KBn K fdI bdPs 3 bdKs g (fun vs zs => vs ++ zs)
abbrev Dk3 := Addr × Addr × List Int
abbrev spLPaper (K : PySem.W.Frag) (CB : Addr) : Sp := spN (fun x : Dk3 => [cell x.1 (cDk K x.1 x.2.1 x.2.2)]) (fun x => [tRf.is x.1]) (tB9 K CB) (fun _ => True) (fun _ b => Bo b)
abbrev spLRates (K : PySem.W.Frag) (CB : Addr) : Sp := spN (fun x : Dk3 × B9 => [cell x.1.1 (cDk K x.1.1 x.1.2.1 x.1.2.2)]) (fun x => [tRf.is x.1.1, (tB9 K CB).is x.2]) (tMp (tFr K)) (fun x => Bo x.2) (fun x m => RtOk x.2 m)
theorem d24 {q : Int} (h : q.natAbs < 1000) : q.natAbs < 2 ^ 2400 := Nat.lt_trans h (Nat.lt_of_lt_of_le (by decide : 1000 < 2 ^ 10) (Nat.pow_le_pow_right (by decide) (by decide)))
abbrev sLRates : Stmt := topS 67
theorem scLRates : FnScope ["deck", "bond", "rates", "period"] ["deck", "bond"] (defScope sLRates) := ⟨rfl, rfl, rfl, by decide +kernel, rfl, by decide +kernel, by decide +kernel⟩
theorem ok_lrates {f CB : Addr} {fd : FuncData} {k : Nat} (F : Fun K "_law_rates" "_law_rates" sLRates f fd) (c_law_periods : Cal P w K mg base k "_law_periods" ["bond"] (spRows K CB)) (c_law_draw : Cal P w K mg base k "_law_draw" ["deck", "most"] (spDrawA K)) (c_law_ratio : Cal P w K mg base k "_law_ratio" ["p", "q"] spRatio) : FnOk P w K mg base CX0 (k + 1) f fd ["deck", "bond"] (spLRates K CB) := by
  refine ok_N F scLRates (fun _ => rfl) fun cdv A outer s H0 S x Q E hr hp out => ?_
  have hu := hu_of hr
  refine ⟨_, (pss_cons (ps_set (i := 2) scLRates.nd rfl (Or.inl rfl) pe_dnewK)
      (pss_cons (ps_for PassesOwn.never rfl (pi_list (pe_cal c_law_periods hr (by rfl) (pa_cons (pv 1) pa_nil))) (pg_name (i := 3) scLRates.nd rfl (Or.inl rfl)) (pss_one (ps_dput hu (pv 2) (pe_ix ix_tup (pv 3) pe_int (fun _ _ => rfl)) (pe_cal c_law_ratio hr (by rfl) (pa_cons (pe_op op_sub (pe_cal c_law_draw hr (by rfl) (pa_cons (pv 0) (pa_cons pe_int pa_nil))) pe_int) (pa_cons pe_int pa_nil))) rfl)))
      (pss_one (ps_ret (pv 2))))), ?_⟩
  obtain ⟨⟨d, l, ns⟩, b⟩ := x
  have hb : Bo b := hp
  have n1 := hb.n1
  have big : (2000 : Nat) ≤ sizeLine := by decide
  refine go_ms fun hMS => ?_
  refine go_newMI (tFr K) fun p np => ?_
  refine go_seq (go_for (ι := Mp Rat) (iv_list (ev_call (z := b) (ea_cons (ev_var rfl) ea_nil) hb)) tgt_name (fun k c => ([cell p (cMpI (tFr K) c k), cell d (cDk K d l ns)], [some (tRf.is d), some ((tB9 K CB).is b), some (tRf.is p), none])) (fun k c => ∀ r ∈ (rowsB b).take k, ∃ x, c r.1 = some x ∧ Rq x) (fun _ => none) (fun r m => by rw [List.take_zero] at m; cases m) (fun σ H o => o.sb (by walk_at "sb")) (fun k c r f hx pv => ?_) (fun c pv σ H o => ?_))
  · have hk : k < nB b := by rw [← rows_len]; exact (List.getElem?_eq_some_iff.mp hx).1
    refine go_putI (P := Rq) rfl (List.Perm.refl _) (ev_item (n := 0) (y := r.1) (ev_var rfl) rfl) (Evx.imp (evx_ratio (K := K) (evx_sub (evx_draw (K := K) (d := d) (l := l) (ns := ns) rfl (List.mem_cons_of_mem _ (List.mem_cons_self ..)) ev_int (by decide) (lt8 (by decide))) (Ev.xe ev_int)) (Ev.xe ev_int) ?_) ?_) (Nat.lt_of_lt_of_le (show k < 2000 by omega) big) fun y hy σ H o => ⟨_, fun s m => ?_, o.sb (by walk_at "sb")⟩
    · rintro p q ⟨i, j, ⟨h1, h2⟩, rfl, rfl⟩ rfl
      exact ⟨by decide, d24 (by omega), d24 (by decide)⟩
    · rintro y ⟨p, q, ⟨i, j, ⟨h1, h2⟩, rfl, rfl⟩, rfl, rfl⟩
      exact ⟨i - 1, by omega, rfl⟩
    · rw [List.take_succ, hx] at m
      by_cases c0 : s.1 = r.1
      · exact ⟨y, if_pos c0, hy⟩
      · rcases List.mem_append.mp m with q | q
        · obtain ⟨z, h1, h2⟩ := pv s q
          exact ⟨z, by rw [if_neg c0]; exact h1, h2⟩
        · obtain rfl : s = r := List.mem_singleton.mp q
          exact absurd rfl c0
  · rw [List.take_length] at pv
    exact go_at o (go_frzI (n := 2) (t := tFr K) (m := c) rfl (fun a m => hMS a m) np (fun a m => hMS a m) (go_end (ev_var (n := 2) rfl) out (hp := pv) (hC := fun c z => z)))
abbrev sLPaper : Stmt := topS 66
theorem scLPaper : FnScope ["deck", "first", "last", "calls", "k", "day"] ["deck"] (defScope sLPaper) := ⟨rfl, rfl, rfl, by decide +kernel, rfl, by decide +kernel, by decide +kernel⟩
theorem ok_lpaper {f CB fI : Addr} {fd fdI : FuncData} {k : Nat} {g : List Value → List Value → List Value} (F : Fun K "_law_paper" "_law_paper" sLPaper f fd) (MB : MkBd P w K mg base k CB fI fdI g) (c_law_draw : Cal P w K mg base (k + 1) "_law_draw" ["deck", "most"] (spDrawA K)) (c_law_ratio : Cal P w K mg base (k + 1) "_law_ratio" ["p", "q"] spRatio) (z_range : mg "range" = none) (z_len : mg "len" = none) : FnOk P w K mg base CX0 (k + 2) f fd ["deck"] (spLPaper K CB) := by
  obtain ⟨mk_Bond, ok_Bond, m_Bond, kb_Bond⟩ := MB
  refine ok_N F scLPaper (fun _ => rfl) fun cdv A outer s H0 S x Q E hr hp out => ⟨_, (pss_cons (ps_set (i := 1) scLPaper.nd rfl (Or.inl rfl) (pe_cal c_law_draw hr (by rfl) (pa_cons (pv 0) (pa_cons pe_int pa_nil))))
      (pss_cons (ps_set (i := 2) scLPaper.nd rfl (Or.inl rfl) (pe_op op_add (pe_op op_add (pv 1) pe_int) (pe_cal c_law_draw hr (by rfl) (pa_cons (pv 0) (pa_cons pe_int pa_nil)))))
      (pss_cons (ps_set (i := 3) scLPaper.nd rfl (Or.inl rfl) (pe_lst pa_nil))
      (pss_cons (ps_for PassesOwn.never rfl (pi_range1 rfl z_range (pa_cons (pe_cal c_law_draw hr (by rfl) (pa_cons (pv 0) (pa_cons pe_int pa_nil))) pa_nil)) (pg_name (i := 4) scLPaper.nd rfl (Or.inl rfl)) (pss_cons (ps_set (i := 5) scLPaper.nd rfl (Or.inl rfl) (pe_op op_add (pe_op op_add (pv 1) pe_int) (pe_cal c_law_draw hr (by rfl) (pa_cons (pv 0) (pa_cons pe_int pa_nil)))))
      (pss_one (ps_if (PW.pt (pw_and (pt_cmpR op_lt (pv 5) (pv 2) (nomark _)) (pw_and1 (PW.pt (pw_or (pt_cmpR (op_eqD hr.units) (pv 3) (pe_lst pa_nil) (nomark _)) (pw_or1 (pt_cmpR op_lt (pe_ix ix_tup (pe_ix ix_list (pv 3) (pe_op op_sub (pe_callB call_len_seq (by rfl) z_len PySem.boot_len (pa_cons (pv 3) pa_nil)) pe_int) (fun _ _ => rfl)) pe_int (fun _ _ => rfl)) (pv 5) (nomark _)))))))) (pss_one (ps_expr (pe_bm PySem.F.plainAttrs_list PySem.F.slot_list_append PySem.F.type_list_append mt_append (pv 3) (pa_cons (pe_tup (pa_cons (pv 5) (pa_cons (pe_cal c_law_ratio hr (by rfl) (pa_cons (pe_op op_add pe_int (pe_cal c_law_draw hr (by rfl) (pa_cons (pv 0) (pa_cons pe_int pa_nil)))) (pa_cons (pe_op op_add pe_int (pe_cal c_law_draw hr (by rfl) (pa_cons (pv 0) (pa_cons pe_int pa_nil)))) pa_nil))) pa_nil))) pa_nil)))) pss_nil))))
      (pss_one (ps_ret (pe_makeK mk_Bond ok_Bond hr (by rfl) m_Bond kb_Bond pass0 (pa_cons pe_str (pa_cons pe_str pa_nil)) (pk_cons (pe_op op_add pe_int (pe_cal c_law_draw hr (by rfl) (pa_cons (pv 0) (pa_cons pe_int pa_nil)))) (pk_cons (pe_cal c_law_ratio hr (by rfl) (pa_cons (pe_op op_add pe_int (pe_cal c_law_draw hr (by rfl) (pa_cons (pv 0) (pa_cons pe_int pa_nil)))) (pa_cons (pe_op op_add pe_int (pe_cal c_law_draw hr (by rfl) (pa_cons (pv 0) (pa_cons pe_int pa_nil)))) pa_nil))) (pk_cons (pv 1) (pk_cons (pv 2) (pk_cons (pe_op op_add pe_int (pe_cal c_law_draw hr (by rfl) (pa_cons (pv 0) (pa_cons pe_int pa_nil)))) (pk_cons (pe_ix ix_list (pe_lst (pa_cons pe_str (pa_cons pe_str (pa_cons pe_str pa_nil)))) (pe_cal c_law_draw hr (by rfl) (pa_cons (pv 0) (pa_cons pe_int pa_nil))) (fun _ _ => rfl)) (pk_cons (pe_ix ix_list (pe_lst (pa_cons pe_str (pa_cons pe_str (pa_cons pe_str (pa_cons pe_str pa_nil))))) (pe_cal c_law_draw hr (by rfl) (pa_cons (pv 0) (pa_cons pe_int pa_nil))) (fun _ _ => rfl)) (pk_cons (pe_cal c_law_draw hr (by rfl) (pa_cons (pv 0) (pa_cons pe_int pa_nil))) (pk_cons pe_int (pk_cons (pe_lst pa_nil) (pk_cons (pe_tup (pa_cons pe_str (pa_cons (pe_tup (pa_cons pe_int (pa_cons pe_int pa_nil))) pa_nil))) (pk_cons (pe_lst pa_nil) (pk_cons pe_non (pk_cons (pv 3) pk_nil))))))))))))))))))))), ?_⟩
  obtain ⟨d, l, ns⟩ := x
  have big : (2000 : Nat) ≤ sizeLine := by decide
  refine go_ms fun hm => ?_
  refine go_setx (evx_draw (K := K) (d := d) (l := l) (ns := ns) rfl (List.mem_cons_self ..) ev_int (by decide) (lt8 (by decide))) fun fi hfi => ?_
  refine go_setx (evx_add (Ev.xe (ev_add (ev_var rfl) ev_int)) (evx_draw (K := K) (d := d) (l := l) (ns := ns) rfl (List.mem_cons_self ..) ev_int (by decide) (lt8 (by decide)))) fun la hla => ?_
  obtain ⟨_, lj, rfl, ⟨lj0, lj1⟩, rfl⟩ := hla
  obtain ⟨fi0, fi1⟩ := hfi
  refine go_newN (t := tPr K tInt (tFr K)) el_nil (k := fun p np => ?_)
  have lay : ∀ xs : List (Int × Rat), ((eqLs (eqPr (eqInt (K := K)) (eqFr (K := K)))).d xs).canLay0 = true := fun xs => lay_ls _ fun y _ => lay_pr (lay_int _) (lay_fr _)
  refine go_seq (go_forx (ivx_range1 (evx_draw (K := K) (d := d) (l := l) (ns := ns) rfl (List.mem_cons_of_mem _ (List.mem_cons_self ..)) ev_int (by decide) (lt8 (by decide))) ?_) tgt_name (fun k (cs : List (Int × Rat)) => ([cell p (cLs (tPr K tInt (tFr K)) cs), cell d (cDk K d l ns)], [some (tRf.is d), some (tInt.is fi), some (tInt.is (fi + 1 + lj)), some (tRf.is p), none, none])) (fun k cs => cs.length ≤ k) [] (Nat.le_refl _) (fun σ H o => ?_) (fun xs k cs x f hX hx hk => ?_) (fun xs cs hX hk σ H o => ?_))
  · rintro n ⟨h1, h2⟩
    omega
  · exact o.sb (by walk_at "sb")
  · have k3 : k < 3 := by
      obtain ⟨n, ⟨h1, h2⟩, rfl⟩ := hX
      have := (List.getElem?_eq_some_iff.mp hx).1
      rw [List.length_map, List.length_range] at this
      omega
    refine go_setx (evx_add (Ev.xe (ev_add (ev_var rfl) ev_int)) (evx_draw (K := K) (d := d) (l := l) (ns := ns) rfl (List.mem_cons_of_mem _ (List.mem_cons_self ..)) ev_int (by decide) (lt8 (by decide)))) fun da hda => ?_
    obtain ⟨_, dj, rfl, ⟨dj0, dj1⟩, rfl⟩ := hda
    refine go_ifx (P := fun _ => True) (Et.toX (b := decide (fi + 1 + dj < fi + 1 + lj) && (decide (cs = []) || decide ((cs.getLast?.getD (0, 0)).1 < fi + 1 + dj))) (et_and (et_of (ev_cmp (ev_var rfl) (ev_var rfl))) fun _ => et_or (et_of (ev_eqDg (eqPr eqInt eqFr) rfl (List.mem_cons_self ..) (ev_lst (K := K) el_nil (by show 0 ≤ sizeLine; decide)) (lay _) (lay _) (Nat.le_of_ble_eq_true (by rfl)))) fun h => et_of (ev_cmp (ev_fst (y := (cs.getLast?.getD (0, 0)).2) (ev_ixC rfl (List.mem_cons_self ..) (ev_sub (ev_lenG rfl (List.mem_cons_self ..)) ev_int) ?_)) (ev_var rfl))) trivial) (fun _ => ?_) (fun _ => go_next fun σ H o => ⟨cs, by show cs.length ≤ k + 1; exact Nat.le_succ_of_le hk, o.sb (by walk_at "sb")⟩)
    · have hne : cs ≠ [] := of_decide_eq_false h
      have hpos : 0 < cs.length := List.length_pos_iff.mpr hne
      rw [show ((cs.length : Int) - 1) = ((cs.length - 1 : Nat) : Int) by omega]
      refine atI_nat ?_
      rw [← List.getLast?_eq_getElem?]
      cases e : cs.getLast? with
      | none => exact absurd (List.getLast?_eq_none_iff.mp e) hne
      | some y => rfl
    · refine go_app1x (P := fun _ => True) rfl (List.Perm.refl _) (evx_pr1 (P := fun _ => True) (ev_var rfl) (Evx.imp (evx_ratio (K := K) (evx_add (Ev.xe ev_int) (evx_draw (K := K) (d := d) (l := l) (ns := ns) rfl (List.mem_cons_of_mem _ (List.mem_cons_self ..)) ev_int (by decide) (lt8 (by decide)))) (evx_add (Ev.xe ev_int) (evx_draw (K := K) (d := d) (l := l) (ns := ns) rfl (List.mem_cons_of_mem _ (List.mem_cons_self ..)) ev_int (by decide) (lt8 (by decide)))) ?_) fun _ _ => trivial) fun _ _ => trivial) (Nat.lt_of_lt_of_le (show cs.length < 2000 by omega) big) fun y _ σ H o => ⟨cs ++ [y], by show (cs ++ [y]).length ≤ k + 1; rw [List.length_append]; show cs.length + 1 ≤ k + 1; omega, o.sb (by walk_at "sb")⟩
      rintro p q ⟨_, j, rfl, ⟨h1, h2⟩, rfl⟩ ⟨_, j', rfl, ⟨h3, h4⟩, rfl⟩
      exact ⟨by omega, d24 (by omega), d24 (by omega)⟩
  · dsimp only
    refine go_at o (go_frz (K := K) (i := 3) (t := tPr K tInt (tFr K)) (xs := cs) rfl (fun a m => hm a m) np (fun a m => hm a m) ?_)
    refine go_endx (P := fun b => Bo b) (evx_to (u := tB9 K CB) (evx_makeK (fun (_ : Unit) (e : Int × Rat × Int × Str × Str × Int × Unit) => (⟨⟨e.2.1, fi, fi + 1 + lj, e.2.2.1, e.2.2.2.1, e.2.2.2.2.1⟩, e.1, e.2.2.2.2.2.1, cs⟩ : A9)) (Ea.xe (ea_cons ev_str (ea_cons ev_str ea_nil))) (eax_consx (evx_add (Ev.xe ev_int) (evx_draw (K := K) (d := d) (l := l) (ns := ns) rfl (List.mem_cons_self ..) ev_int (by decide) (lt8 (by decide)))) (eax_consx (P := Fq) (Evx.imp (evx_ratio (K := K) (evx_add (Ev.xe ev_int) (evx_draw (K := K) (d := d) (l := l) (ns := ns) rfl (List.mem_cons_self ..) ev_int (by decide) (lt8 (by decide)))) (evx_add (Ev.xe ev_int) (evx_draw (K := K) (d := d) (l := l) (ns := ns) rfl (List.mem_cons_self ..) ev_int (by decide) (lt8 (by decide)))) ?_) ?_) (eax_cons (ev_var rfl) (eax_cons (ev_var rfl) (eax_consx (evx_add (Ev.xe ev_int) (evx_draw (K := K) (d := d) (l := l) (ns := ns) rfl (List.mem_cons_self ..) ev_int (by decide) (lt8 (by decide)))) (eax_consx (evx_ixL (R := fun z => z ∈ counts) (ev_lst (K := K) (t := tSt) (xs := ["thirty", "fixed", "plain"]) (el_cons ev_str (el_cons ev_str (el_cons ev_str el_nil))) (by show 3 ≤ sizeLine; decide)) (evx_draw (K := K) (d := d) (l := l) (ns := ns) rfl (List.mem_cons_self ..) ev_int (by decide) (lt8 (by decide))) ?_) (eax_consx (evx_ixL (R := fun z => z ∈ fourW) (ev_lst (K := K) (t := tSt) (xs := ["none", "next", "modified", "before"]) (el_cons ev_str (el_cons ev_str (el_cons ev_str (el_cons ev_str el_nil)))) (by show 4 ≤ sizeLine; decide)) (evx_draw (K := K) (d := d) (l := l) (ns := ns) rfl (List.mem_cons_self ..) ev_int (by decide) (lt8 (by decide))) ?_) (eax_consx (evx_draw (K := K) (d := d) (l := l) (ns := ns) rfl (List.mem_cons_self ..) ev_int (by decide) (lt8 (by decide))) (Ea.xe (ea_cons (ev_any ev_int) (ea_cons (ev_lst (K := K) (t := tAny) el_nil (by show 0 ≤ sizeLine; decide)) (ea_cons (ev_any (ev_pr (K := K) ev_str (ev_pr (K := K) ev_int ev_int))) (ea_cons (ev_lst (K := K) (t := tAny) el_nil (by show 0 ≤ sizeLine; decide)) (ea_cons (ev_any ev_non) (ea_cons (ev_var rfl) ea_nil))))))))))))))) ?_ ?_ ?_ ?_) ?_) out (hC := fun c z => z)
    · rintro p q ⟨_, j, rfl, ⟨h1, h2⟩, rfl⟩ ⟨_, j2, rfl, ⟨h3, h4⟩, rfl⟩
      exact ⟨by omega, d24 (by omega), d24 (by omega)⟩
    · rintro r ⟨p, q, ⟨_, j, rfl, ⟨h1, h2⟩, rfl⟩, ⟨_, j2, rfl, ⟨h3, h4⟩, rfl⟩, rfl⟩
      exact fq_mk (by omega) (by omega) (by omega) (by omega)
    · rintro n ⟨h1, h2⟩
      have key : ∀ n : Nat, n < 3 → ∃ x, x ∈ counts ∧ (["thirty", "fixed", "plain"] : List Str)[n]? = some x := by decide
      obtain ⟨x, h3, h4⟩ := key n.toNat (by omega)
      exact ⟨x, h3, by rw [show n = (n.toNat : Int) by omega]; exact atI_nat h4⟩
    · rintro n ⟨h1, h2⟩
      have key : ∀ n : Nat, n < 4 → ∃ x, x ∈ fourW ∧ (["none", "next", "modified", "before"] : List Str)[n]? = some x := by decide
      obtain ⟨x, h3, h4⟩ := key n.toNat (by omega)
      exact ⟨x, h3, by rw [show n = (n.toNat : Int) by omega]; exact atI_nat h4⟩
    · intro _; rfl
    · intro _; rfl
    · intro H v c e us ws f1 f2
      exact ⟨us ++ ws, rfl, Fits.append f1 f2⟩
    · intro _ _ _ _; trivial
    · rintro z ⟨_, e, _, ⟨⟨_, u, rfl, ⟨u0, u1⟩, hu⟩, hf, ⟨_, mo, rfl, ⟨m0, m1⟩, hm⟩, hc, ha, hr, _⟩, rfl⟩
      refine ⟨_, ⟨fi0, ?_, ?_, ?_, ?_, ?_, ha, hc, hf⟩, fun H v r => r⟩
      · show fi ≤ 1000; omega
      · show fi < fi + 1 + lj; omega
      · show fi + 1 + lj ≤ fi + 1000; omega
      · show 1 ≤ e.2.2.1; omega
      · show e.2.2.1 ≤ 20; omega
end
end Cs
set_option maxHeartbeats 4000000
namespace Cs
open PySem PySem.Spec PyProof.Rows L2
local macro_rules | `(tactic| walk_at "rd") => `(tactic| (first
  | (refine ⟨_, rfl, ?_⟩)
  | (refine ⟨_, _, rfl, rfl, ?_⟩)
  | (refine .inl ⟨_, rfl, ?_⟩)
  | (refine .inr ⟨_, rfl, ?_⟩)
  | (refine ⟨_, _, _, _, rfl, rfl, SqL.of upd_same, rfl, ?_⟩)
  | (refine ⟨_, _, _, _, rfl, rfl, upd_same, rfl, ?_⟩)
  | (refine ⟨_, ?xs, _, ?v, rfl, rfl, ?h, ?x, ?_⟩; (case h => first | exact SqL.of (by assumption) | exact SqT.of (by assumption) | assumption); (case x => first | rfl | exact atI_nat (j := 0) rfl | exact atI_nat (j := 1) rfl))))
local macro_rules | `(tactic| walk_at "isi") => `(tactic| (first
  | (refine ⟨_, _, _, _, _, rfl, .ty _, .base (.int _), kit_ty kit_it, ?_⟩)
  | (refine ⟨_, _, _, _, _, rfl, .ty _, .base (.int _), kit_ty kit_ib, ?_⟩)
  | (refine ⟨_, _, _, _, _, rfl, .ty _, .base (.int _), kit_ty kit_ii, ?_⟩)
  | (refine ⟨_, _, _, _, _, rfl, .ty _, .base (.bl _), kit_ty kit_bt, ?_⟩)
  | (refine ⟨_, _, _, _, _, rfl, .ty _, .base (.bl _), kit_ty kit_bb, ?_⟩)
  | (refine ⟨_, _, _, _, _, rfl, .ty _, .base (.bl _), kit_ty kit_bi, ?_⟩)))
local macro_rules | `(tactic| walk_at "ev") => `(tactic| (first
  | exact ev_var rfl
  | exact ev_int
  | exact ev_str
  | exact ev_bl
  | exact ev_non
  | (refine ev_add ?_ ?_ <;> walk_at "ev")
  | (refine ev_sub ?_ ?_ <;> walk_at "ev")
  | (refine ev_mul ?_ ?_ ?_ <;> (try walk_at "ev"))
  | (refine ev_neg ?_ <;> walk_at "ev")
  | (refine ev_num ?_ <;> walk_at "ev")
  | (refine ev_den ?_ <;> walk_at "ev")
  | (refine ev_cmp ?_ ?_ <;> walk_at "ev")
  | (refine ev_eqI ?_ ?_ <;> walk_at "ev")
  | (refine ev_eqS ?_ ?_ <;> walk_at "ev")
  | (refine ev_neI ?_ ?_ <;> walk_at "ev")
  | (refine ev_neS ?_ ?_ <;> walk_at "ev")
  | (refine ev_inS ?_ ?_ <;> walk_at "ev")
  | (refine ev_niS ?_ ?_ <;> walk_at "ev")
  | (refine ev_len ?_ <;> walk_at "ev")
  | (refine ev_list ?_ <;> walk_at "ev")
  | (refine ev_listRev ?_ <;> walk_at "ev")
  | (refine ev_int1 ?_ <;> walk_at "ev")))
local macro_rules | `(tactic| walk_at "ea") => `(tactic| (first
  | exact ea_nil
  | (refine ea_cons ?_ ?_ <;> (first | walk_at "ev" | walk_at "ea" | skip))))
local macro_rules | `(tactic| walk_at "sb") => `(tactic| (first | exact True.intro | (refine And.intro rfl ?_; walk_at "sb")))
local macro_rules | `(tactic| walk_at "subt") => `(tactic| repeat (first | exact List.nil_sublist _ | apply List.Sublist.cons₂ | apply List.Sublist.cons))
section
variable {P : Program} {w : World} {K : PySem.W.Frag} {mg : Str → Option Value} {base : Heap}
/-! ### the law -/
abbrev sMay : Stmt := topS 43
theorem scMay : FnScope ["bond", "day"] ["bond", "day"] (defScope sMay) := ⟨rfl, rfl, rfl, by decide +kernel, rfl, by decide +kernel, by decide +kernel⟩
section
variable {x : DA}
theorem rs_nil {α : Type} {l : List α} {g : α → Rat} (h : l.isEmpty = true) : rsum (l.map g) = 0 := by
  cases l with
  | nil => rfl
  | cons _ _ => cases h
theorem rsum_one {r : Rat} : rsum [r] = r := by
  rw [rsum_cons, show rsum [] = 0 from rfl]
  grind
theorem inc_y {z : Str} {r : Rat} (h : okC z = true) : incV (z, r) = r := if_pos h
theorem inc_n {z : Str} {r : Rat} (h : okC z = false) : incV (z, r) = 0 := if_neg (show ¬ okC z = true by rw [h]; decide)
theorem cp_inc : rsum ((cpV x).map incV) = rsum (cpL x) := by
  unfold cpV
  split
  · rename_i h
    cases e : cpL x with
    | nil => rfl
    | cons _ _ => rw [e] at h; cases h
  · rw [List.map_singleton, rsum_one]
    exact inc_y (by decide)
theorem cp_cnt : cntV (cpV x) = 0 := by
  unfold cpV cntV
  split
  · rfl
  · rw [List.filter_cons_of_neg (by show ¬ (!okC "coupon") = true; decide)]
    rfl
theorem def_parts (h1 : x.b.first ≤ x.d) (h2 : x.d ≤ lastP x.b) : befV x + rsum ((fdV ⟨x, some ("default" : Str)⟩).map incV) = partsV x ∧ cntV (fdV ⟨x, some ("default" : Str)⟩) = 1 := by
  have e : fdV ⟨x, some ("default" : Str)⟩ = cpV x ++ [(("default" : Str), x.b.face)] ++ [(("accrued" : Str), acV x)] := by
    unfold fdV midV finV
    dsimp only
    rw [if_neg (by omega), if_pos rfl, if_pos (show (some ("default" : Str)).isSome = true from rfl)]
  rw [e]
  constructor
  · rw [List.map_append, List.map_append, rsum_app, rsum_app, cp_inc, parts_eq]
    have e1 : rsum ([(("default" : Str), x.b.face)].map incV) = 0 := by
      rw [List.map_singleton, rsum_one]
      exact inc_n (by decide)
    have e2 : rsum ([(("accrued" : Str), acV x)].map incV) = acV x := by
      rw [List.map_singleton, rsum_one]
      exact inc_y (by decide)
    rw [e1, e2]
    unfold befV
    grind
  · have hc := cp_cnt (x := x)
    unfold cntV at hc ⊢
    rw [List.filter_append, List.filter_append, List.length_append, List.length_append, hc]
    rfl
theorem whole_parts (hb : Bo x.b) (h2 : x.d = lastP x.b) : befV x + rsum ((fdV ⟨x, none⟩).map incV) = rsum ((rowsB x.b).map (inI x)) ∧ cntV (fdV ⟨x, none⟩) = 1 := by
  have hl := hb.last
  have e : fdV ⟨x, none⟩ = cpV x ++ [(("principal" : Str), x.b.face)] := by
    unfold fdV midV finV
    dsimp only
    rw [if_neg (by omega), if_neg (by decide), if_pos h2, if_neg (by decide), List.append_nil]
  rw [e]
  constructor
  · rw [List.map_append, rsum_app, cp_inc]
    have e1 : rsum ([(("principal" : Str), x.b.face)].map incV) = 0 := by
      rw [List.map_singleton, rsum_one]
      exact inc_n (by decide)
    have e2 : (rowsB x.b).filter (fun r => decide (r.2.2 < x.d) || decide (r.2.2 = x.d)) = rowsB x.b := List.filter_eq_self.mpr fun r m => by
      have := (hb.pay m).2
      simp only [Bool.or_eq_true, decide_eq_true_eq]
      omega
    have e3 := rsum_split (A := fun r : I3 => decide (r.2.2 < x.d)) (B := fun r => decide (r.2.2 = x.d)) (g := inI x) (l := rowsB x.b) fun r _ h => by
      have h1 := of_decide_eq_true h.1
      have h3 := of_decide_eq_true h.2
      omega
    rw [e2] at e3
    rw [e1, e3]
    unfold befV cpL paidOn
    show _ + (rsum (List.map (inI x) _) + 0) = _
    grind
  · have hc := cp_cnt (x := x)
    unfold cntV at hc ⊢
    rw [List.filter_append, List.length_append, hc]
    rfl
end
theorem rows_last {b : B9} (h : Bo b) : atI (rowsB b) (((rowsB b).length : Int) - 1) = some (rowB b (nB b - 1)) := by
  have n1 := h.n1
  rw [rows_len, show ((nB b : Nat) : Int) - 1 = ((nB b - 1 : Nat) : Int) by omega]
  refine atI_nat ?_
  unfold rowsB
  rw [List.getElem?_map, List.getElem?_range (by omega)]
  rfl
abbrev sLaw : Stmt := topS 70
theorem scLaw : FnScope ["script", "deck", "bond", "rates", "periods_v", "last", "day", "told", "whole", "row"] ["script"] (defScope sLaw) := ⟨rfl, rfl, rfl, by decide +kernel, rfl, by decide +kernel, by decide +kernel⟩
theorem ok_law {f CB : Addr} {fd : FuncData} {k : Nat} (F : Fun K "law" "law" sLaw f fd) (BC : BondC K CB) (c_law_deck : Cal P w K mg base k "_law_deck" ["script"] (spDeckN K)) (c_law_draw : Cal P w K mg base k "_law_draw" ["deck", "most"] (spDrawA K)) (c_law_paper : Cal P w K mg base k "_law_paper" ["deck"] (spLPaper K CB)) (c_law_rates : Cal P w K mg base k "_law_rates" ["deck", "bond"] (spLRates K CB)) (c_law_periods : Cal P w K mg base k "_law_periods" ["bond"] (spRows K CB)) (c_law_paid : Cal P w K mg base k "_law_paid" ["bond", "rates", "day", "event"] (spPaid K CB)) (c_law_parts : Cal P w K mg base k "_law_parts" ["bond", "rates", "day"] (spParts K CB)) (c_law_interest : Cal P w K mg base k "_law_interest" ["bond", "rates", "start", "end"] (spLInt K CB)) (c_law_total : Cal P w K mg base k "_law_total" ["values"] (spTotT K)) (z_len : mg "len" = none) : FnOk P w K mg base CX0 (k + 1) f fd ["script"] (spLawT K) := by
  refine ok_P F scLaw (fun _ => rfl) fun cdv A outer s H0 S ns Q E hr hp out => ⟨_, (pss_cons (ps_set (i := 1) scLaw.nd rfl (Or.inl rfl) (pe_cal c_law_deck hr (by rfl) (pa_cons (pv 0) pa_nil)))
      (pss_cons (ps_set (i := 2) scLaw.nd rfl (Or.inr rfl) (pe_cal c_law_paper hr (by rfl) (pa_cons (pv 1) pa_nil)))
      (pss_cons (ps_set (i := 3) scLaw.nd rfl (Or.inr rfl) (pe_cal c_law_rates hr (by rfl) (pa_cons (pv 1) (pa_cons (pv 2) pa_nil))))
      (pss_cons (ps_set (i := 4) scLaw.nd rfl (Or.inl rfl) (pe_cal c_law_periods hr (by rfl) (pa_cons (pv 2) pa_nil)))
      (pss_cons (ps_set (i := 5) scLaw.nd rfl (Or.inl rfl) (pe_ix ix_tup (pe_ix ix_list (pv 4) (pe_op op_sub (pe_callB call_len_seq (by rfl) z_len PySem.boot_len (pa_cons (pv 4) pa_nil)) pe_int) (fun _ _ => rfl)) pe_int (fun _ _ => rfl)))
      (pss_cons (ps_set (i := 6) scLaw.nd rfl (Or.inl rfl) (pe_op op_add (pe_fld (pv 2) rfl) (pe_cal c_law_draw hr (by rfl) (pa_cons (pv 1) (pa_cons (pe_op op_add (pe_op op_sub (pv 5) (pe_fld (pv 2) rfl)) pe_int) pa_nil)))))
      (pss_cons (ps_set (i := 7) scLaw.nd rfl (Or.inl rfl) (pe_cal c_law_paid hr (by rfl) (pa_cons (pv 2) (pa_cons (pv 3) (pa_cons (pv 6) (pa_cons pe_str pa_nil))))))
      (pss_cons (ps_if (PW.pt (pw_or (pt_cmpR (op_neD hr.units) (pe_ix ix_list (pv 7) pe_int (fun _ _ => rfl)) (pe_cal c_law_parts hr (by rfl) (pa_cons (pv 2) (pa_cons (pv 3) (pa_cons (pv 6) pa_nil)))) (nomark _)) (pw_or1 (pt_cmpR op_ne (pe_ix ix_list (pv 7) pe_int (fun _ _ => rfl)) pe_int (nomark _))))) (pss_one (ps_ret pe_bl)) pss_nil)
      (pss_cons (ps_set (i := 8) scLaw.nd rfl (Or.inl rfl) (pe_cal c_law_paid hr (by rfl) (pa_cons (pv 2) (pa_cons (pv 3) (pa_cons (pv 5) (pa_cons pe_non pa_nil))))))
      (pss_cons (ps_if (pt_cmpR (op_neD hr.units) (pe_ix ix_list (pv 8) pe_int (fun _ _ => rfl)) (pe_cal c_law_total hr (by rfl) (pa_cons (pe_lc (own := [("row", 9)]) (g := gName 9) (tt := tYes) rfl scLaw.nd (pi_list (pv 4)) (blkOk_by (own := [("row", 9)]) (N := ["script", "deck", "bond", "rates", "periods_v", "last", "day", "told", "whole", "row"]) (sc := defScope sLaw) (by decide +kernel)) (fun _ _ _ _ _ => (pg_name (i := 9) scLaw.nd rfl (Or.inl rfl))) (fun _ _ _ _ _ => pts_nil) (fun _ _ _ _ _ => (pe_cal c_law_interest hr (by rfl) (pa_cons (pv 2) (pa_cons (pv 3) (pa_cons (pe_ix (ix_tupK (K := K) rfl) (pv 9) pe_int (fun _ _ => rfl)) (pa_cons (pe_ix (ix_tupK (K := K) rfl) (pv 9) pe_int (fun _ _ => rfl)) pa_nil))))))) pa_nil)) (nomark _)) (pss_one (ps_ret pe_bl)) pss_nil)
      (pss_one (ps_ret (pe_cmpR op_eq (pe_ix ix_list (pv 8) pe_int (fun _ _ => rfl)) pe_int (nomark _)))))))))))))), ?_⟩
  have big : (2000 : Nat) ≤ sizeLine := by decide
  refine go_deck rfl fun d l => ?_
  refine go_setx (evx_call (z := (d, l, ns)) (ea_cons (ev_var rfl) ea_nil) trivial) fun b hb => ?_
  have hb : Bo b := hb
  refine go_setx (evx_call (z := ((d, l, ns), b)) (ea_cons (ev_var rfl) (ea_cons (ev_var rfl) ea_nil)) hb) fun m hm => ?_
  have hm : RtOk b m := hm
  have hl := hb.last
  have f0 := hb.f0
  refine go_set (x := rowsB b) (ev_call (z := b) (ea_cons (ev_var rfl) ea_nil) hb) ?_
  refine go_set (x := lastP b) (ev_item (n := 2) (ev_ixL (ev_var rfl) (ev_sub (ev_len (ev_var rfl)) ev_int) (rows_last hb)) rfl) ?_
  refine go_setx (evx_add (Ev.xe (ev_fld 1 (ev_var rfl) BC.cl BC.n5)) (evx_draw (K := K) (d := d) (l := l) (ns := ns) rfl (List.mem_cons_self ..) (ev_add (ev_sub (ev_var rfl) (ev_fld 1 (ev_var rfl) BC.cl BC.n5)) ev_int) (by omega) (lt8 (by omega)))) fun da hda => ?_
  obtain ⟨_, j, rfl, ⟨j0, j1⟩, rfl⟩ := hda
  have d1 : b.first + j ≤ lastP b := by omega
  have hdp := def_parts (x := ⟨b, b.first + j, m⟩) (by show b.first ≤ b.first + j; omega) d1
  refine go_set (x := paidV ⟨⟨b, b.first + j, m⟩, some ("default" : Str)⟩) (ev_call (z := (⟨⟨b, b.first + j, m⟩, some ("default" : Str)⟩ : FA)) (ea_cons (ev_var rfl) (ea_cons (ev_var rfl) (ea_cons (ev_var rfl) (ea_cons (ev_to (u := tOpt tSt) (y := some ("default" : Str)) (ev_str (z := "default")) (fun H v r => ⟨r, by rw [show v = .str _ from r]; simp⟩)) ea_nil)))) ⟨⟨hb, hm⟩, (fun q => absurd (Option.some.inj q) (by decide)), d1⟩) ?_
  refine go_ifr (et_or (et_of (ev_neD (hn := (by show 1 ≤ 64; decide)) (eqFr (K := K)) (ev_ofl (ev_ixL (x := Sum.inl _) (ev_var rfl) ev_int (atI_nat (j := 0) rfl))) (ev_call (z := (⟨b, b.first + j, m⟩ : DA)) (ea_cons (ev_var rfl) (ea_cons (ev_var rfl) (ea_cons (ev_var rfl) ea_nil))) ⟨⟨hb, hm⟩, by show 0 ≤ b.first + j; omega⟩) (lay_fr _) (lay_fr _))) fun _ => et_of (ev_neI (ev_ofr (ev_ixL (x := Sum.inr _) (ev_var rfl) ev_int (atI_nat (j := 1) rfl))) ev_int)) (fun h => ?_) (fun _ => ?_)
  · exfalso
    rw [hdp.1, hdp.2] at h
    simp at h
  refine go_set (x := paidV ⟨⟨b, lastP b, m⟩, none⟩) (ev_call (z := (⟨⟨b, lastP b, m⟩, none⟩ : FA)) (ea_cons (ev_var rfl) (ea_cons (ev_var rfl) (ea_cons (ev_var rfl) (ea_cons (ev_to (u := tOpt tSt) (y := none) ev_non (fun H v r => r)) ea_nil)))) ⟨⟨hb, hm⟩, (fun q => nomatch q), Int.le_refl _⟩) ?_
  have hw := whole_parts (x := ⟨b, lastP b, m⟩) hb rfl
  have hq : Pq ⟨b, lastP b, m⟩ := ⟨hb, hm⟩
  refine go_ifr (et_of (ev_neD (hn := (by show 1 ≤ 64; decide)) (eqFr (K := K)) (ev_ofl (ev_ixL (x := Sum.inl _) (ev_var rfl) ev_int (atI_nat (j := 0) rfl))) (ev_call (z := (rowsB b).map (inI ⟨b, lastP b, m⟩)) (ea_cons (ev_lcm (K := K) (f := inI ⟨b, lastP b, m⟩) (iv_list (ev_var rfl)) tgt_name (by simp) (Nat.lt_of_lt_of_le hb.rlen big) (fun D φ F r hF hx => ev_call (z := UA.mk b m r.1 r.2.1) (ea_cons (ev_var rfl) (ea_cons (ev_var rfl) (ea_cons (ev_item (n := 0) (y := r.1) (ev_var rfl) rfl) (ea_cons (ev_item (n := 1) (y := r.2.1) (ev_var rfl) rfl) ea_nil)))) ⟨hb, hm r hx, (hb.rows hx).a0, Int.le_of_lt (hb.rows hx).ab, by have := (hb.rows hx).b1; show r.2.1 ≤ 10000; omega⟩)) ea_nil) ⟨fun y my => ?_, ?_⟩) (lay_fr _) (lay_fr _))) (fun h => ?_) (fun _ => ?_)
  · obtain ⟨r, hr, rfl⟩ := List.mem_map.mp my
    exact inI_q hq hr
  · rw [List.length_map, rows_len]
    exact hb.n1.2
  · exfalso
    rw [hw.1] at h
    simp at h
  exact go_end (y := true) (ev_is (ev_eqI (ev_ofr (ev_ixL (x := Sum.inr _) (ev_var rfl) ev_int (atI_nat (j := 1) rfl))) ev_int) (by rw [hw.2]; rfl)) out
end
end Cs
set_option maxHeartbeats 4000000
namespace Cs
open PySem PySem.Spec PyProof.Rows L2
local macro_rules | `(tactic| walk_at "rd") => `(tactic| (first
  | (refine ⟨_, rfl, ?_⟩)
  | (refine ⟨_, _, rfl, rfl, ?_⟩)
  | (refine .inl ⟨_, rfl, ?_⟩)
  | (refine .inr ⟨_, rfl, ?_⟩)
  | (refine ⟨_, _, _, _, rfl, rfl, SqL.of upd_same, rfl, ?_⟩)
  | (refine ⟨_, _, _, _, rfl, rfl, upd_same, rfl, ?_⟩)
  | (refine ⟨_, ?xs, _, ?v, rfl, rfl, ?h, ?x, ?_⟩; (case h => first | exact SqL.of (by assumption) | exact SqT.of (by assumption) | assumption); (case x => first | rfl | exact atI_nat (j := 0) rfl | exact atI_nat (j := 1) rfl))))
local macro_rules | `(tactic| walk_at "isi") => `(tactic| (first
  | (refine ⟨_, _, _, _, _, rfl, .ty _, .base (.int _), kit_ty kit_it, ?_⟩)
  | (refine ⟨_, _, _, _, _, rfl, .ty _, .base (.int _), kit_ty kit_ib, ?_⟩)
  | (refine ⟨_, _, _, _, _, rfl, .ty _, .base (.int _), kit_ty kit_ii, ?_⟩)
  | (refine ⟨_, _, _, _, _, rfl, .ty _, .base (.bl _), kit_ty kit_bt, ?_⟩)
  | (refine ⟨_, _, _, _, _, rfl, .ty _, .base (.bl _), kit_ty kit_bb, ?_⟩)
  | (refine ⟨_, _, _, _, _, rfl, .ty _, .base (.bl _), kit_ty kit_bi, ?_⟩)))
theorem bdDeck (kV doc pm : Value) (an : Option Addr) (cdv ct : Value) (us : List Value) (hl : us.length = (["script"] : List Str).length) : bindArgs (PySem.W.fnOf "_law_deck" "_law_deck" (defArgs sDeck) (defBody sDeck) (defScope sDeck) .none kV doc pm an cdv ct) ⟨us, []⟩ = pure ((["script"] : List Str).zip us) := match us, hl with | [_], _ => rfl
theorem bdDraw (kV doc pm : Value) (an : Option Addr) (cdv ct : Value) (us : List Value) (hl : us.length = (["deck", "most"] : List Str).length) : bindArgs (PySem.W.fnOf "_law_draw" "_law_draw" (defArgs sDraw) (defBody sDraw) (defScope sDraw) .none kV doc pm an cdv ct) ⟨us, []⟩ = pure ((["deck", "most"] : List Str).zip us) := match us, hl with | [_, _], _ => rfl
theorem bdGcd (kV doc pm : Value) (an : Option Addr) (cdv ct : Value) (us : List Value) (hl : us.length = (["a", "b"] : List Str).length) : bindArgs (PySem.W.fnOf "_law_gcd" "_law_gcd" (defArgs sGcd) (defBody sGcd) (defScope sGcd) .none kV doc pm an cdv ct) ⟨us, []⟩ = pure ((["a", "b"] : List Str).zip us) := match us, hl with | [_, _], _ => rfl
theorem bdRatio (kV doc pm : Value) (an : Option Addr) (cdv ct : Value) (us : List Value) (hl : us.length = (["p", "q"] : List Str).length) : bindArgs (PySem.W.fnOf "_law_ratio" "_law_ratio" (defArgs sRatio) (defBody sRatio) (defScope sRatio) .none kV doc pm an cdv ct) ⟨us, []⟩ = pure ((["p", "q"] : List Str).zip us) := match us, hl with | [_, _], _ => rfl
theorem bdCheck (kV doc pm : Value) (an : Option Addr) (cdv ct : Value) (us : List Value) (hl : us.length = (["day"] : List Str).length) : bindArgs (PySem.W.fnOf "_check_day" "_check_day" (defArgs sCheck) (defBody sCheck) (defScope sCheck) .none kV doc pm an cdv ct) ⟨us, []⟩ = pure ((["day"] : List Str).zip us) := match us, hl with | [_], _ => rfl
theorem bdMLen (kV doc pm : Value) (an : Option Addr) (cdv ct : Value) (us : List Value) (hl : us.length = (["month"] : List Str).length) : bindArgs (PySem.W.fnOf "month_length" "month_length" (defArgs sMLen) (defBody sMLen) (defScope sMLen) .none kV doc pm an cdv ct) ⟨us, []⟩ = pure ((["month"] : List Str).zip us) := match us, hl with | [_], _ => rfl
theorem bdDateOf (kV doc pm : Value) (an : Option Addr) (cdv ct : Value) (us : List Value) (hl : us.length = (["day"] : List Str).length) : bindArgs (PySem.W.fnOf "date_of" "date_of" (defArgs sDateOf) (defBody sDateOf) (defScope sDateOf) .none kV doc pm an cdv ct) ⟨us, []⟩ = pure ((["day"] : List Str).zip us) := match us, hl with | [_], _ => rfl
theorem bdDayOf (kV doc pm : Value) (an : Option Addr) (cdv ct : Value) (us : List Value) (hl : us.length = (["year", "month", "number"] : List Str).length) : bindArgs (PySem.W.fnOf "day_of" "day_of" (defArgs sDayOf) (defBody sDayOf) (defScope sDayOf) .none kV doc pm an cdv ct) ⟨us, []⟩ = pure ((["year", "month", "number"] : List Str).zip us) := match us, hl with | [_, _, _], _ => rfl
theorem bdWeekday (kV doc pm : Value) (an : Option Addr) (cdv ct : Value) (us : List Value) (hl : us.length = (["day"] : List Str).length) : bindArgs (PySem.W.fnOf "weekday" "weekday" (defArgs sWeekday) (defBody sWeekday) (defScope sWeekday) .none kV doc pm an cdv ct) ⟨us, []⟩ = pure ((["day"] : List Str).zip us) := match us, hl with | [_], _ => rfl
theorem bdBus (kV doc pm : Value) (an : Option Addr) (cdv ct : Value) (us : List Value) (hl : us.length = (["day"] : List Str).length) : bindArgs (PySem.W.fnOf "is_business" "is_business" (defArgs sBus) (defBody sBus) (defScope sBus) .none kV doc pm an cdv ct) ⟨us, []⟩ = pure ((["day"] : List Str).zip us) := match us, hl with | [_], _ => rfl
theorem bdCkWord (kV doc pm : Value) (an : Option Addr) (cdv ct : Value) (us : List Value) (hl : us.length = (["word"] : List Str).length) : bindArgs (PySem.W.fnOf "_check_word" "_check_word" (defArgs sCkWord) (defBody sCkWord) (defScope sCkWord) .none kV doc pm an cdv ct) ⟨us, []⟩ = pure ((["word"] : List Str).zip us) := match us, hl with | [_], _ => rfl
theorem bdMonthOf (kV doc pm : Value) (an : Option Addr) (cdv ct : Value) (us : List Value) (hl : us.length = (["day"] : List Str).length) : bindArgs (PySem.W.fnOf "_month_of" "_month_of" (defArgs sMonthOf) (defBody sMonthOf) (defScope sMonthOf) .none kV doc pm an cdv ct) ⟨us, []⟩ = pure ((["day"] : List Str).zip us) := match us, hl with | [_], _ => rfl
theorem bdAdjust (kV doc pm : Value) (an : Option Addr) (cdv ct : Value) (us : List Value) (hl : us.length = (["day", "word"] : List Str).length) : bindArgs (PySem.W.fnOf "adjust" "adjust" (defArgs sAdjust) (defBody sAdjust) (defScope sAdjust) .none kV doc pm an cdv ct) ⟨us, []⟩ = pure ((["day", "word"] : List Str).zip us) := match us, hl with | [_, _], _ => rfl
theorem bdAddM (kV doc pm : Value) (an : Option Addr) (cdv ct : Value) (us : List Value) (hl : us.length = (["day", "count"] : List Str).length) : bindArgs (PySem.W.fnOf "add_months" "add_months" (defArgs sAddM) (defBody sAddM) (defScope sAddM) .none kV doc pm an cdv ct) ⟨us, []⟩ = pure ((["day", "count"] : List Str).zip us) := match us, hl with | [_, _], _ => rfl
theorem bdSched (kV doc pm : Value) (an : Option Addr) (cdv ct : Value) (us : List Value) (hl : us.length = (["start", "end", "months"] : List Str).length) : bindArgs (PySem.W.fnOf "schedule" "schedule" (defArgs sSched) (defBody sSched) (defScope sSched) .none kV doc pm an cdv ct) ⟨us, []⟩ = pure ((["start", "end", "months"] : List Str).zip us) := match us, hl with | [_, _, _], _ => rfl
theorem bdPeriods (kV doc pm : Value) (an : Option Addr) (cdv ct : Value) (us : List Value) (hl : us.length = (["start", "end", "months", "word"] : List Str).length) : bindArgs (PySem.W.fnOf "periods" "periods" (defArgs sPeriods) (defBody sPeriods) (defScope sPeriods) .none kV doc pm an cdv ct) ⟨us, []⟩ = pure ((["start", "end", "months", "word"] : List Str).zip us) := match us, hl with | [_, _, _, _], _ => rfl
theorem bdPlus (kV doc pm : Value) (an : Option Addr) (cdv ct : Value) (us : List Value) (hl : us.length = (["a", "b"] : List Str).length) : bindArgs (PySem.W.fnOf "plus" "plus" (defArgs sPlus) (defBody sPlus) (defScope sPlus) .none kV doc pm an cdv ct) ⟨us, []⟩ = pure ((["a", "b"] : List Str).zip us) := match us, hl with | [_, _], _ => rfl
theorem bdMinus (kV doc pm : Value) (an : Option Addr) (cdv ct : Value) (us : List Value) (hl : us.length = (["a", "b"] : List Str).length) : bindArgs (PySem.W.fnOf "minus" "minus" (defArgs sMinus) (defBody sMinus) (defScope sMinus) .none kV doc pm an cdv ct) ⟨us, []⟩ = pure ((["a", "b"] : List Str).zip us) := match us, hl with | [_, _], _ => rfl
theorem bdTimes (kV doc pm : Value) (an : Option Addr) (cdv ct : Value) (us : List Value) (hl : us.length = (["a", "b"] : List Str).length) : bindArgs (PySem.W.fnOf "times" "times" (defArgs sTimes) (defBody sTimes) (defScope sTimes) .none kV doc pm an cdv ct) ⟨us, []⟩ = pure ((["a", "b"] : List Str).zip us) := match us, hl with | [_, _], _ => rfl
theorem bdOver (kV doc pm : Value) (an : Option Addr) (cdv ct : Value) (us : List Value) (hl : us.length = (["a", "b"] : List Str).length) : bindArgs (PySem.W.fnOf "over" "over" (defArgs sOver) (defBody sOver) (defScope sOver) .none kV doc pm an cdv ct) ⟨us, []⟩ = pure ((["a", "b"] : List Str).zip us) := match us, hl with | [_, _], _ => rfl
theorem bdTotal (kV doc pm : Value) (an : Option Addr) (cdv ct : Value) (us : List Value) (hl : us.length = (["values"] : List Str).length) : bindArgs (PySem.W.fnOf "total" "total" (defArgs sTotal) (defBody sTotal) (defScope sTotal) .none kV doc pm an cdv ct) ⟨us, []⟩ = pure ((["values"] : List Str).zip us) := match us, hl with | [_], _ => rfl
theorem bdNumberOf (kV doc pm : Value) (an : Option Addr) (cdv ct : Value) (us : List Value) (hl : us.length = (["count", "day"] : List Str).length) : bindArgs (PySem.W.fnOf "_number_of" "_number_of" (defArgs sNumberOf) (defBody sNumberOf) (defScope sNumberOf) .none kV doc pm an cdv ct) ⟨us, []⟩ = pure ((["count", "day"] : List Str).zip us) := match us, hl with | [_, _], _ => rfl
theorem bdPart (kV doc pm : Value) (an : Option Addr) (cdv ct : Value) (us : List Value) (hl : us.length = (["count", "start", "end"] : List Str).length) : bindArgs (PySem.W.fnOf "part" "part" (defArgs sPart) (defBody sPart) (defScope sPart) .none kV doc pm an cdv ct) ⟨us, []⟩ = pure ((["count", "start", "end"] : List Str).zip us) := match us, hl with | [_, _, _], _ => rfl
theorem bdInterest (kV doc pm : Value) (an : Option Addr) (cdv ct : Value) (us : List Value) (hl : us.length = (["principal", "rate", "count", "start", "end"] : List Str).length) : bindArgs (PySem.W.fnOf "interest" "interest" (defArgs sInterest) (defBody sInterest) (defScope sInterest) .none kV doc pm an cdv ct) ⟨us, []⟩ = pure ((["principal", "rate", "count", "start", "end"] : List Str).zip us) := match us, hl with | [_, _, _, _, _], _ => rfl
theorem bdPaidP (kV doc pm : Value) (an : Option Addr) (cdv ct : Value) (us : List Value) (hl : us.length = (["bond"] : List Str).length) : bindArgs (PySem.W.fnOf "_paid_periods" "_paid_periods" (defArgs sPaidP) (defBody sPaidP) (defScope sPaidP) .none kV doc pm an cdv ct) ⟨us, []⟩ = pure ((["bond"] : List Str).zip us) := match us, hl with | [_], _ => rfl
theorem bdPayD (kV doc pm : Value) (an : Option Addr) (cdv ct : Value) (us : List Value) (hl : us.length = (["bond"] : List Str).length) : bindArgs (PySem.W.fnOf "pay_days" "pay_days" (defArgs sPayD) (defBody sPayD) (defScope sPayD) .none kV doc pm an cdv ct) ⟨us, []⟩ = pure ((["bond"] : List Str).zip us) := match us, hl with | [_], _ => rfl
theorem bdUntil (kV doc pm : Value) (an : Option Addr) (cdv ct : Value) (us : List Value) (hl : us.length = (["bond", "start", "until", "period_rates"] : List Str).length) : bindArgs (PySem.W.fnOf "_interest_until" "_interest_until" (defArgs sUntil) (defBody sUntil) (defScope sUntil) .none kV doc pm an cdv ct) ⟨us, []⟩ = pure ((["bond", "start", "until", "period_rates"] : List Str).zip us) := match us, hl with | [_, _, _, _], _ => rfl
theorem bdAccrued (kV doc pm : Value) (an : Option Addr) (cdv ct : Value) (us : List Value) (hl : us.length = (["bond", "day", "period_rates"] : List Str).length) : bindArgs (PySem.W.fnOf "accrued" "accrued" (defArgs sAccrued) (defBody sAccrued) (defScope sAccrued) .none kV doc pm an cdv ct) ⟨us, []⟩ = pure ((["bond", "day", "period_rates"] : List Str).zip us) := match us, hl with | [_, _, _], _ => rfl
theorem bdCoup (kV doc pm : Value) (an : Option Addr) (cdv ct : Value) (us : List Value) (hl : us.length = (["bond", "day", "period_rates"] : List Str).length) : bindArgs (PySem.W.fnOf "_coupons" "_coupons" (defArgs sCoup) (defBody sCoup) (defScope sCoup) .none kV doc pm an cdv ct) ⟨us, []⟩ = pure ((["bond", "day", "period_rates"] : List Str).zip us) := match us, hl with | [_, _, _], _ => rfl
theorem bdMay (kV doc pm : Value) (an : Option Addr) (cdv ct : Value) (us : List Value) (hl : us.length = (["bond", "day"] : List Str).length) : bindArgs (PySem.W.fnOf "may_be_called" "may_be_called" (defArgs sMay) (defBody sMay) (defScope sMay) .none kV doc pm an cdv ct) ⟨us, []⟩ = pure ((["bond", "day"] : List Str).zip us) := match us, hl with | [_, _], _ => rfl
theorem bdLAdd (kV doc pm : Value) (an : Option Addr) (cdv ct : Value) (us : List Value) (hl : us.length = (["a", "b"] : List Str).length) : bindArgs (PySem.W.fnOf "_law_add" "_law_add" (defArgs sLAdd) (defBody sLAdd) (defScope sLAdd) .none kV doc pm an cdv ct) ⟨us, []⟩ = pure ((["a", "b"] : List Str).zip us) := match us, hl with | [_, _], _ => rfl
theorem bdLTimes (kV doc pm : Value) (an : Option Addr) (cdv ct : Value) (us : List Value) (hl : us.length = (["a", "b"] : List Str).length) : bindArgs (PySem.W.fnOf "_law_times" "_law_times" (defArgs sLTimes) (defBody sLTimes) (defScope sLTimes) .none kV doc pm an cdv ct) ⟨us, []⟩ = pure ((["a", "b"] : List Str).zip us) := match us, hl with | [_, _], _ => rfl
theorem bdLMinus (kV doc pm : Value) (an : Option Addr) (cdv ct : Value) (us : List Value) (hl : us.length = (["a", "b"] : List Str).length) : bindArgs (PySem.W.fnOf "_law_minus" "_law_minus" (defArgs sLMinus) (defBody sLMinus) (defScope sLMinus) .none kV doc pm an cdv ct) ⟨us, []⟩ = pure ((["a", "b"] : List Str).zip us) := match us, hl with | [_, _], _ => rfl
theorem bdLTotal (kV doc pm : Value) (an : Option Addr) (cdv ct : Value) (us : List Value) (hl : us.length = (["values"] : List Str).length) : bindArgs (PySem.W.fnOf "_law_total" "_law_total" (defArgs sLTotal) (defBody sLTotal) (defScope sLTotal) .none kV doc pm an cdv ct) ⟨us, []⟩ = pure ((["values"] : List Str).zip us) := match us, hl with | [_], _ => rfl
theorem bdLDate (kV doc pm : Value) (an : Option Addr) (cdv ct : Value) (us : List Value) (hl : us.length = (["day"] : List Str).length) : bindArgs (PySem.W.fnOf "_law_date" "_law_date" (defArgs sLDate) (defBody sLDate) (defScope sLDate) .none kV doc pm an cdv ct) ⟨us, []⟩ = pure ((["day"] : List Str).zip us) := match us, hl with | [_], _ => rfl
theorem bdLMD (kV doc pm : Value) (an : Option Addr) (cdv ct : Value) (us : List Value) (hl : us.length = (["year", "month", "number"] : List Str).length) : bindArgs (PySem.W.fnOf "_law_month_day" "_law_month_day" (defArgs sLMD) (defBody sLMD) (defScope sLMD) .none kV doc pm an cdv ct) ⟨us, []⟩ = pure ((["year", "month", "number"] : List Str).zip us) := match us, hl with | [_, _, _], _ => rfl
theorem bdLLater (kV doc pm : Value) (an : Option Addr) (cdv ct : Value) (us : List Value) (hl : us.length = (["day", "months"] : List Str).length) : bindArgs (PySem.W.fnOf "_law_later" "_law_later" (defArgs sLLater) (defBody sLLater) (defScope sLLater) .none kV doc pm an cdv ct) ⟨us, []⟩ = pure ((["day", "months"] : List Str).zip us) := match us, hl with | [_, _], _ => rfl
theorem bdLAdj (kV doc pm : Value) (an : Option Addr) (cdv ct : Value) (us : List Value) (hl : us.length = (["day", "word"] : List Str).length) : bindArgs (PySem.W.fnOf "_law_adjusted" "_law_adjusted" (defArgs sLAdj) (defBody sLAdj) (defScope sLAdj) .none kV doc pm an cdv ct) ⟨us, []⟩ = pure ((["day", "word"] : List Str).zip us) := match us, hl with | [_, _], _ => rfl
theorem bdLNum (kV doc pm : Value) (an : Option Addr) (cdv ct : Value) (us : List Value) (hl : us.length = (["count", "day"] : List Str).length) : bindArgs (PySem.W.fnOf "_law_number_of" "_law_number_of" (defArgs sLNum) (defBody sLNum) (defScope sLNum) .none kV doc pm an cdv ct) ⟨us, []⟩ = pure ((["count", "day"] : List Str).zip us) := match us, hl with | [_, _], _ => rfl
theorem bdLInt (kV doc pm : Value) (an : Option Addr) (cdv ct : Value) (us : List Value) (hl : us.length = (["bond", "rates", "start", "end"] : List Str).length) : bindArgs (PySem.W.fnOf "_law_interest" "_law_interest" (defArgs sLInt) (defBody sLInt) (defScope sLInt) .none kV doc pm an cdv ct) ⟨us, []⟩ = pure ((["bond", "rates", "start", "end"] : List Str).zip us) := match us, hl with | [_, _, _, _], _ => rfl
theorem bdLPer (kV doc pm : Value) (an : Option Addr) (cdv ct : Value) (us : List Value) (hl : us.length = (["bond"] : List Str).length) : bindArgs (PySem.W.fnOf "_law_periods" "_law_periods" (defArgs sLPer) (defBody sLPer) (defScope sLPer) .none kV doc pm an cdv ct) ⟨us, []⟩ = pure ((["bond"] : List Str).zip us) := match us, hl with | [_], _ => rfl
theorem bdLParts (kV doc pm : Value) (an : Option Addr) (cdv ct : Value) (us : List Value) (hl : us.length = (["bond", "rates", "day"] : List Str).length) : bindArgs (PySem.W.fnOf "_law_parts" "_law_parts" (defArgs sLParts) (defBody sLParts) (defScope sLParts) .none kV doc pm an cdv ct) ⟨us, []⟩ = pure ((["bond", "rates", "day"] : List Str).zip us) := match us, hl with | [_, _, _], _ => rfl
theorem bdLPaid (kV doc pm : Value) (an : Option Addr) (cdv ct : Value) (us : List Value) (hl : us.length = (["bond", "rates", "day", "event"] : List Str).length) : bindArgs (PySem.W.fnOf "_law_paid" "_law_paid" (defArgs sLPaid) (defBody sLPaid) (defScope sLPaid) .none kV doc pm an cdv ct) ⟨us, []⟩ = pure ((["bond", "rates", "day", "event"] : List Str).zip us) := match us, hl with | [_, _, _, _], _ => rfl
theorem bdLRates (kV doc pm : Value) (an : Option Addr) (cdv ct : Value) (us : List Value) (hl : us.length = (["deck", "bond"] : List Str).length) : bindArgs (PySem.W.fnOf "_law_rates" "_law_rates" (defArgs sLRates) (defBody sLRates) (defScope sLRates) .none kV doc pm an cdv ct) ⟨us, []⟩ = pure ((["deck", "bond"] : List Str).zip us) := match us, hl with | [_, _], _ => rfl
theorem bdLPaper (kV doc pm : Value) (an : Option Addr) (cdv ct : Value) (us : List Value) (hl : us.length = (["deck"] : List Str).length) : bindArgs (PySem.W.fnOf "_law_paper" "_law_paper" (defArgs sLPaper) (defBody sLPaper) (defScope sLPaper) .none kV doc pm an cdv ct) ⟨us, []⟩ = pure ((["deck"] : List Str).zip us) := match us, hl with | [_], _ => rfl
theorem bdFraction0 (T : Addr) (kV doc pm : Value) (an : Option Addr) (cdv ct : Value) (us its : List Value) (hl : us.length = 2) (hi : its.length = 1) :
      ∃ k, bindArgs (PySem.W.fnOf "fraction" "fraction" (defArgs sFraction) (defBody sFraction) (defScope sFraction) (.ref T) kV doc pm an cdv ct) ⟨us, []⟩ = seqItems? (.ref T) >>= k ∧ k (some its.toArray) = pure ((["p", "q"] : List Str).zip (us ++ its.drop 1)) := match us, its, hl, hi with | [_, _], [_], _, _ => ⟨_, rfl, rfl⟩
theorem bdFraction1 (T : Addr) (kV doc pm : Value) (an : Option Addr) (cdv ct : Value) (us its : List Value) (hl : us.length = 1) (hi : its.length = 1) :
      ∃ k, bindArgs (PySem.W.fnOf "fraction" "fraction" (defArgs sFraction) (defBody sFraction) (defScope sFraction) (.ref T) kV doc pm an cdv ct) ⟨us, []⟩ = seqItems? (.ref T) >>= k ∧ k (some its.toArray) = pure ((["p", "q"] : List Str).zip (us ++ its.drop 0)) := match us, its, hl, hi with | [_], [_], _, _ => ⟨_, rfl, rfl⟩
theorem bdBInit (kV doc pm : Value) (an : Option Addr) (cdv ct : Value) (us ws : List Value) (h1 : us.length = 3) (h2 : ws.length = bdKs.length) : bindArgs (PySem.W.fnOf "__init__" "Bond.__init__" (defArgs sBInit) (defBody sBInit) (defScope sBInit) .none kV doc pm an cdv ct) ⟨us, bdKs.zip ws⟩ = pure (bdPs.zip (us ++ ws)) := bind_kw (N := ["self", "name", "issuer"]) (Kn := bdKs) rfl rfl rfl rfl rfl rfl (by decide +kernel) h1 h2
theorem bdFalls (D : Addr) (doc pm : Value) (an : Option Addr) (cdv ct : Value) (us ks : List Value) (h1 : us.length = 3) (h2 : ks.length = 1) : KwChain D ((["event"] : List Str).zip ks) (bindArgs (PySem.W.fnOf "falls_due" "falls_due" (defArgs sFalls) (defBody sFalls) (defScope sFalls) .none (.ref D) doc pm an cdv ct) ⟨us, []⟩) ((["bond", "day", "period_rates", "event"] : List Str).zip (us ++ ks)) := match us, ks, h1, h2 with
  | [_, _, _], [_], _, _ => ⟨_, _, _, _, _, _, rfl, rfl, rfl⟩
theorem bdFallsK (kV doc pm : Value) (an : Option Addr) (cdv ct : Value) (us ws : List Value) (h1 : us.length = 3) (h2 : ws.length = (["event"] : List Str).length) : bindArgs (PySem.W.fnOf "falls_due" "falls_due" (defArgs sFalls) (defBody sFalls) (defScope sFalls) .none kV doc pm an cdv ct) ⟨us, (["event"] : List Str).zip ws⟩ = pure ((["bond", "day", "period_rates", "event"] : List Str).zip (us ++ ws)) := bind_kw (N := ["bond", "day", "period_rates"]) (Kn := ["event"]) rfl rfl rfl rfl rfl rfl (by decide +kernel) h1 h2
theorem kdFalls {P : Program} {w : World} {K : PySem.W.Frag} {mg : Str → Option Value} {base : Heap} {k : Nat} {sp : Sp} {f : Addr} {fd : FuncData} (F : FunD K "falls_due" "falls_due" (defArgs sFalls) (defBody sFalls) (defScope sFalls) [] [("event", .non)] f fd) (hm : mg "falls_due" = some (.ref f)) (ok : FnOk P w K mg base CX0 k f fd ["bond", "day", "period_rates", "event"] sp) : CalD P w K mg base k "falls_due" ["bond", "day", "period_rates", "event"] [.non] sp ∧ CalK P w K mg base k "falls_due" ["bond", "day", "period_rates", "event"] 3 ["event"] sp := by
  obtain ⟨ds, v, b⟩ := F.binds0 (ps := ["bond", "day", "period_rates", "event"]) 3 (by simp) rfl fun D doc pm an cdv ct us ks h1 h2 => bdFalls D doc pm an cdv ct us ks h1 h2
  refine ⟨⟨f, fd, ds, ok, hm, F.kp, b, v⟩, ⟨f, fd, ok, hm, F.kp, ?_⟩⟩
  obtain ⟨oc, od, dV, kV, doc, pm, an, cdv, ct, osl, rfl, lk, hcd, hD, hK⟩ := F.ex
  rcases hD with ⟨_, rfl⟩ | ⟨e, _⟩
  · exact ⟨fun s us ws _ h1 h2 => .of_eq (bdFallsK kV doc pm an cdv ct us ws h1 h2), fun a b => a.append b⟩
  · exact absurd rfl e
theorem all_mk {l : PySem.W.OpenLaw} {w : World} {K : PySem.W.Frag} {h : Heap} {mg : Str → Option Value} {fa : Addr} {zZ zL zW zD zK fFD : Addr} {dZ dL dW : Option Addr} {tk0 tk1 tw0 tw1 tw2 tw3 td0 td1 td2 t365 t7 t4 t12 tm0 tm1 tm2 tm3 tm4 tm5 tm6 tm7 tm8 tm9 tm10 tm11 : Tok} {nZ nL nW nD : Nat} {slZ slL slW : Array (Option Value)} {esD : Array DictEntry} {odF anF : Option Addr} {slF : Array (Option Value)} {ocF dcF pmF cdF ctF : Value} {CB fI : Addr} {odI anI : Option Addr} {slI : Array (Option Value)} {ocI kVI dcI pmI cdI ctI : Value} (X : K.In h) (G : h.Ns mainGlobals mg) (hfa : mg "law" = some (.ref fa))
    (gDeck : FunG K mg "_law_deck" sDeck ["script"])
    (gDraw : FunG K mg "_law_draw" sDraw ["deck", "most"])
    (gGcd : FunG K mg "_law_gcd" sGcd ["a", "b"])
    (gRatio : FunG K mg "_law_ratio" sRatio ["p", "q"])
    (gCheck : FunG K mg "_check_day" sCheck ["day"])
    (gMLen : FunG K mg "month_length" sMLen ["month"])
    (gDateOf : FunG K mg "date_of" sDateOf ["day"])
    (gDayOf : FunG K mg "day_of" sDayOf ["year", "month", "number"])
    (gWeekday : FunG K mg "weekday" sWeekday ["day"])
    (gBus : FunG K mg "is_business" sBus ["day"])
    (gCkWord : FunG K mg "_check_word" sCkWord ["word"])
    (gMonthOf : FunG K mg "_month_of" sMonthOf ["day"])
    (gAdjust : FunG K mg "adjust" sAdjust ["day", "word"])
    (gAddM : FunG K mg "add_months" sAddM ["day", "count"])
    (gSched : FunG K mg "schedule" sSched ["start", "end", "months"])
    (gPeriods : FunG K mg "periods" sPeriods ["start", "end", "months", "word"])
    (gPlus : FunG K mg "plus" sPlus ["a", "b"])
    (gMinus : FunG K mg "minus" sMinus ["a", "b"])
    (gTimes : FunG K mg "times" sTimes ["a", "b"])
    (gOver : FunG K mg "over" sOver ["a", "b"])
    (gTotal : FunG K mg "total" sTotal ["values"])
    (gNumberOf : FunG K mg "_number_of" sNumberOf ["count", "day"])
    (gPart : FunG K mg "part" sPart ["count", "start", "end"])
    (gInterest : FunG K mg "interest" sInterest ["principal", "rate", "count", "start", "end"])
    (gPaidP : FunG K mg "_paid_periods" sPaidP ["bond"])
    (gPayD : FunG K mg "pay_days" sPayD ["bond"])
    (gUntil : FunG K mg "_interest_until" sUntil ["bond", "start", "until", "period_rates"])
    (gAccrued : FunG K mg "accrued" sAccrued ["bond", "day", "period_rates"])
    (gCoup : FunG K mg "_coupons" sCoup ["bond", "day", "period_rates"])
    (gMay : FunG K mg "may_be_called" sMay ["bond", "day"])
    (gLAdd : FunG K mg "_law_add" sLAdd ["a", "b"])
    (gLTimes : FunG K mg "_law_times" sLTimes ["a", "b"])
    (gLMinus : FunG K mg "_law_minus" sLMinus ["a", "b"])
    (gLTotal : FunG K mg "_law_total" sLTotal ["values"])
    (gLDate : FunG K mg "_law_date" sLDate ["day"])
    (gLMD : FunG K mg "_law_month_day" sLMD ["year", "month", "number"])
    (gLLater : FunG K mg "_law_later" sLLater ["day", "months"])
    (gLAdj : FunG K mg "_law_adjusted" sLAdj ["day", "word"])
    (gLNum : FunG K mg "_law_number_of" sLNum ["count", "day"])
    (gLInt : FunG K mg "_law_interest" sLInt ["bond", "rates", "start", "end"])
    (gLPer : FunG K mg "_law_periods" sLPer ["bond"])
    (gLParts : FunG K mg "_law_parts" sLParts ["bond", "rates", "day"])
    (gLPaid : FunG K mg "_law_paid" sLPaid ["bond", "rates", "day", "event"])
    (gLRates : FunG K mg "_law_rates" sLRates ["deck", "bond"])
    (gLPaper : FunG K mg "_law_paper" sLPaper ["deck"])
    (gFraction : FunDG K mg "fraction" sFraction ["p", "q"] [.int 1])
    {f2 : Addr} {od2 an2 : Option Addr} {sl2 : Array (Option Value)} {oc2 kV2 dc2 pm2 cd2 ct2 : Value}
    (a2 : PySem.W.nsIn K mainGlobals "law" = some (some (.ref f2))) (l2 : K.lookup f2 = some ⟨oc2, od2, .func (PySem.W.fnOf "law" "law" (defArgs sLaw) (defBody sLaw) (defScope sLaw) .none kV2 dc2 pm2 an2 cd2 ct2), sl2⟩) (c2 : PySem.W.codeIn K cd2 "law" = true) (k2 : PySem.W.keepIn K (.ref f2) = true)
    (y_len : PySem.W.nsIn K mainGlobals "len" = some none)
    (y_int : PySem.W.nsIn K mainGlobals "int" = some none)
    (y_abs : PySem.W.nsIn K mainGlobals "abs" = some none)
    (y_range : PySem.W.nsIn K mainGlobals "range" = some none)
    (y_list : PySem.W.nsIn K mainGlobals "list" = some none)
    (y_divmod : PySem.W.nsIn K mainGlobals "divmod" = some none)
    (y_sum : PySem.W.nsIn K mainGlobals "sum" = some none)
    (y_min : PySem.W.nsIn K mainGlobals "min" = some none)
    (y_max : PySem.W.nsIn K mainGlobals "max" = some none)
    (y_zip : PySem.W.nsIn K mainGlobals "zip" = some none)
    (y_gcd : PySem.W.nsIn K mainGlobals "gcd" = some (some (.builtin "math.gcd")))
    (k_DAYS_OF_YEAR : PySem.W.nsIn K mainGlobals "DAYS_OF_YEAR" = some (some (.int 365 t365)))
    (k_DAYS_OF_WEEK : PySem.W.nsIn K mainGlobals "DAYS_OF_WEEK" = some (some (.int 7 t7)))
    (k_LAST_BUSINESS : PySem.W.nsIn K mainGlobals "LAST_BUSINESS" = some (some (.int 4 t4)))
    (k_MONTHS_OF_YEAR : PySem.W.nsIn K mainGlobals "MONTHS_OF_YEAR" = some (some (.int 12 t12)))
    (yZ : PySem.W.nsIn K mainGlobals "ZERO" = some (some (.ref zZ)))
    (lZ : K.lookup zZ = some ⟨.type "tuple", dZ, .seq #[.int 0 tk0, .int 1 tk1] nZ, slZ⟩)
    (k_LENGTHS : PySem.W.nsIn K mainGlobals "LENGTHS" = some (some (.ref zL)))
    (l_LENGTHS : K.lookup zL = some ⟨.type "tuple", dL, .seq #[.int 31 tm0, .int 28 tm1, .int 31 tm2, .int 30 tm3, .int 31 tm4, .int 30 tm5, .int 31 tm6, .int 31 tm7, .int 30 tm8, .int 31 tm9, .int 30 tm10, .int 31 tm11] nL, slL⟩)
    (k_ADJ : PySem.W.nsIn K mainGlobals "ADJUSTING_WORDS" = some (some (.ref zW)))
    (l_ADJ : K.lookup zW = some ⟨.type "tuple", dW, .seq #[.str "none" tw0, .str "next" tw1, .str "before" tw2, .str "modified" tw3] nW, slW⟩)
    (k_DIV : PySem.W.nsIn K mainGlobals "DIVISORS" = some (some (.ref zD)))
    (l_DIV : K.lookup zD = some ⟨.type "dict", none, .dict esD nD, #[]⟩)
    (v_fixed : PySem.W.nsIn K zD "fixed" = some (some (.int 365 td0)))
    (v_thirty : PySem.W.nsIn K zD "thirty" = some (some (.int 360 td1)))
    (v_plain : PySem.W.nsIn K zD "plain" = some (some (.int 12 td2)))
    (s_DIV : (zD == sysModules) = false)
    (kl_DIV : PySem.W.KeysLit w.params esD.toList)
    (aFD : PySem.W.nsIn K mainGlobals "falls_due" = some (some (.ref fFD)))
    (lFD : K.lookup fFD = some ⟨ocF, odF, .func (PySem.W.fnOf "falls_due" "falls_due" (defArgs sFalls) (defBody sFalls) (defScope sFalls) .none (.ref zK) dcF pmF anF cdF ctF), slF⟩)
    (cFD : PySem.W.codeIn K cdF "falls_due" = true)
    (kFD : PySem.W.keepIn K (.ref fFD) = true)
    (vFD : PySem.W.nsIn K zK "event" = some (some .none))
    (aB : PySem.W.nsIn K mainGlobals "Bond" = some (some (.ref CB)))
    (iB : PySem.W.findIn K (.ref CB) "__init__" = some (some (.ref fI)))
    (jB : PySem.W.isFn K (.ref fI) = true)
    (lB : K.lookup fI = some ⟨ocI, odI, .func (PySem.W.fnOf "__init__" "Bond.__init__" (defArgs sBInit) (defBody sBInit) (defScope sBInit) .none kVI dcI pmI anI cdI ctI), slI⟩)
    (cB : PySem.W.codeIn K cdI "Bond.__init__" = true)
    (kB : PySem.W.keepIn K (.ref fI) = true)
    (pgB : PySem.W.plainGet K CB Str.empty = true)
    (hdB : PySem.W.hasDictIn K CB = true)
    (poB : PySem.W.plainOver K CB = true)
    (saB : PySem.W.findIn K (.ref CB) "__setattr__" = some (some (.builtin "object.__setattr__")))
    (mkB : PySem.W.makesIn K CB = true)
    (kcB : PySem.W.keepIn K (.ref CB) = true)
    (nB0 : PySem.W.findIn K (.ref CB) "name" = some none)
    (nB1 : PySem.W.findIn K (.ref CB) "issuer" = some none)
    (nB2 : PySem.W.findIn K (.ref CB) "units" = some none)
    (nB3 : PySem.W.findIn K (.ref CB) "face" = some none)
    (nB4 : PySem.W.findIn K (.ref CB) "cross" = some none)
    (nB5 : PySem.W.findIn K (.ref CB) "first_day" = some none)
    (nB6 : PySem.W.findIn K (.ref CB) "last_day" = some none)
    (nB7 : PySem.W.findIn K (.ref CB) "months" = some none)
    (nB8 : PySem.W.findIn K (.ref CB) "count" = some none)
    (nB9 : PySem.W.findIn K (.ref CB) "adjust" = some none)
    (nB10 : PySem.W.findIn K (.ref CB) "record" = some none)
    (nB11 : PySem.W.findIn K (.ref CB) "rank" = some none)
    (nB12 : PySem.W.findIn K (.ref CB) "lets" = some none)
    (nB13 : PySem.W.findIn K (.ref CB) "coupon" = some none)
    (nB14 : PySem.W.findIn K (.ref CB) "promises" = some none)
    (nB15 : PySem.W.findIn K (.ref CB) "calls" = some none) :
    ∃ fd : FuncData, (∀ (s : Shared) (v : Value), BindsTo s fd ⟨[v], []⟩ [("script", v)]) ∧ ∀ base : Heap, K.In base → base.Ns mainGlobals mg → FnOk l.prog w K mg base CX0 10 fa fd ["script"] (spLawT K) := by
  have e := hfa.symm.trans (PySem.W.mg_of X G a2)
  cases e
  have z_len := PySem.W.mg_none_of X G y_len
  have z_int := PySem.W.mg_none_of X G y_int
  have z_abs := PySem.W.mg_none_of X G y_abs
  have z_range := PySem.W.mg_none_of X G y_range
  have z_list := PySem.W.mg_none_of X G y_list
  have z_divmod := PySem.W.mg_none_of X G y_divmod
  have z_sum := PySem.W.mg_none_of X G y_sum
  have z_min := PySem.W.mg_none_of X G y_min
  have z_max := PySem.W.mg_none_of X G y_max
  have z_zip := PySem.W.mg_none_of X G y_zip
  refine ⟨PySem.W.fnOf "law" "law" (defArgs sLaw) (defBody sLaw) (defScope sLaw) .none kV2 dc2 pm2 an2 cd2 ct2, fun s v => .of_eq rfl, fun base _ _ => ?_⟩
  have BC : BondC K CB := ⟨⟨pgB, hdB, poB, saB⟩, nB0, nB1, nB2, nB3, nB4, nB5, nB6, nB7, nB8, nB9, nB10, nB11, nB12, nB13, nB14, nB15⟩
  have FB := fun_mk (st := sBInit) lB cB kB
  have MB : MkBd l.prog w K mg base 1 CB fI _ (fun us ws => us ++ ws) := ⟨⟨mkB, iB, jB, kcB⟩, ok_binit (k := 0) FB BC z_list, PySem.W.mg_of X G aB, ⟨fun s us ws _ h1 h2 => .of_eq (bdBInit kVI dcI pmI anI cdI ctI us ws h1 h2), fun a b => a.append b⟩⟩
  have hL : ∀ H, SqT K H zL (lens.map V.int) := fun H => .inr ⟨_, #[.int 31 tm0, .int 28 tm1, .int 31 tm2, .int 30 tm3, .int 31 tm4, .int 30 tm5, .int 31 tm6, .int 31 tm7, .int 30 tm8, .int 31 tm9, .int 30 tm10, .int 31 tm11], nL, l_LENGTHS, rfl, rfl, by show 12 ≤ sizeLine; decide, .cons ⟨tm0, rfl⟩ (.cons ⟨tm1, rfl⟩ (.cons ⟨tm2, rfl⟩ (.cons ⟨tm3, rfl⟩ (.cons ⟨tm4, rfl⟩ (.cons ⟨tm5, rfl⟩ (.cons ⟨tm6, rfl⟩ (.cons ⟨tm7, rfl⟩ (.cons ⟨tm8, rfl⟩ (.cons ⟨tm9, rfl⟩ (.cons ⟨tm10, rfl⟩ (.cons ⟨tm11, rfl⟩ (.nil))))))))))))⟩
  have hW : ∀ H, SqT K H zW wdsV := fun H => .inr ⟨_, #[.str "none" tw0, .str "next" tw1, .str "before" tw2, .str "modified" tw3], nW, l_ADJ, rfl, rfl, by show 4 ≤ sizeLine; decide, .cons ⟨tw0, rfl⟩ (.cons ⟨tw1, rfl⟩ (.cons ⟨tw2, rfl⟩ (.cons ⟨tw3, rfl⟩ .nil)))⟩
  have hZ : ∀ H, SqT K H zZ [.int 0, .int 1] := fun H => .inr ⟨_, #[.int 0 tk0, .int 1 tk1], nZ, lZ, rfl, rfl, by show 2 ≤ sizeLine; decide, .cons ⟨tk0, rfl⟩ (.cons ⟨tk1, rfl⟩ .nil)⟩
  have hD : ∀ c ∈ counts, KDct K w zD c (.int (dvs c)) := fun c hc => by
    rcases List.mem_cons.mp hc with q | hc
    · subst q
      exact ⟨_, _, _, l_DIV, kl_DIV, v_fixed, ⟨td0, rfl⟩⟩
    rcases List.mem_cons.mp hc with q | hc
    · subst q
      exact ⟨_, _, _, l_DIV, kl_DIV, v_thirty, ⟨td1, rfl⟩⟩
    rcases List.mem_cons.mp hc with q | hc
    · subst q
      exact ⟨_, _, _, l_DIV, kl_DIV, v_plain, ⟨td2, rfl⟩⟩
    · cases hc
  obtain ⟨cFraction, cFraction1⟩ := Cal.ofD (P := l.prog) (w := w) (base := base) (k := 1) (sp := spFrac) gFraction fun F => ok_fraction (k := 0) F (PySem.W.mg_of X G y_gcd)
  have cDeck : Cal l.prog w K mg base 1 "_law_deck" ["script"] (spDeckN K) := Cal.of gDeck fun F => ok_deck (k := 0) F z_list
  have cDraw : Cal l.prog w K mg base 1 "_law_draw" ["deck", "most"] (spDrawA K) := Cal.of gDraw fun F => ok_draw (k := 0) F z_len z_int
  have cGcd : Cal l.prog w K mg base 1 "_law_gcd" ["a", "b"] spGcd := Cal.of gGcd fun F => ok_gcd (k := 0) F z_range z_int
  have cRatio : Cal l.prog w K mg base 2 "_law_ratio" ["p", "q"] spRatio := Cal.of gRatio fun F => ok_ratio (k := 1) F (cGcd.mono (by decide)) z_abs
  have cCheck : Cal l.prog w K mg base 1 "_check_day" ["day"] spCk := Cal.of gCheck fun F => ok_check (k := 0) F
  have cMLen : Cal l.prog w K mg base 1 "month_length" ["month"] spML := Cal.of gMLen fun F => ok_mlen (k := 0) F (PySem.W.mg_of X G k_MONTHS_OF_YEAR) (PySem.W.mg_of X G k_LENGTHS) hL
  have cDateOf : Cal l.prog w K mg base 2 "date_of" ["day"] (spDateT K) := Cal.of gDateOf fun F => ok_dateof (k := 1) F (cCheck.mono (by decide)) (cMLen.mono (by decide)) (PySem.W.mg_of X G k_DAYS_OF_YEAR) z_divmod
  have cDayOf : Cal l.prog w K mg base 2 "day_of" ["year", "month", "number"] spDayT := Cal.of gDayOf fun F => ok_dayof (k := 1) F (cMLen.mono (by decide)) (PySem.W.mg_of X G k_DAYS_OF_YEAR) (PySem.W.mg_of X G k_LENGTHS) hL z_sum
  have cWeekday : Cal l.prog w K mg base 2 "weekday" ["day"] spWk := Cal.of gWeekday fun F => ok_weekday (k := 1) F (cCheck.mono (by decide)) (PySem.W.mg_of X G k_DAYS_OF_WEEK)
  have cBus : Cal l.prog w K mg base 3 "is_business" ["day"] spBs := Cal.of gBus fun F => ok_bus (k := 2) F (cWeekday.mono (by decide)) (PySem.W.mg_of X G k_LAST_BUSINESS)
  have cCkWord : Cal l.prog w K mg base 1 "_check_word" ["word"] spCkW := Cal.of gCkWord fun F => ok_ckword (k := 0) F (PySem.W.mg_of X G k_ADJ) hW
  have cMonthOf : Cal l.prog w K mg base 3 "_month_of" ["day"] (spMoT K) := Cal.of gMonthOf fun F => ok_monthof (k := 2) F (cDateOf.mono (by decide))
  have cAdjust : Cal l.prog w K mg base 4 "adjust" ["day", "word"] spAdjT := Cal.of gAdjust fun F => ok_adjust (k := 3) F (cCkWord.mono (by decide)) (cBus.mono (by decide)) (cWeekday.mono (by decide)) (cMonthOf.mono (by decide)) (PySem.W.mg_of X G k_DAYS_OF_WEEK) (PySem.W.mg_of X G k_LAST_BUSINESS)
  have cAddM : Cal l.prog w K mg base 3 "add_months" ["day", "count"] spAddT := Cal.of gAddM fun F => ok_addm (k := 2) F (cDateOf.mono (by decide)) (cDayOf.mono (by decide)) (cMLen.mono (by decide)) (PySem.W.mg_of X G k_MONTHS_OF_YEAR) z_min
  have cSched : Cal l.prog w K mg base 4 "schedule" ["start", "end", "months"] (spSchT K) := Cal.of gSched fun F => ok_sched (k := 3) F (cAddM.mono (by decide))
  have cPeriods : Cal l.prog w K mg base 5 "periods" ["start", "end", "months", "word"] (spPerT K) := Cal.of gPeriods fun F => ok_periods (k := 4) F (cCkWord.mono (by decide)) (cSched.mono (by decide)) (cAdjust.mono (by decide)) z_zip
  have cPlus : Cal l.prog w K mg base 2 "plus" ["a", "b"] (spPlusT K) := Cal.of gPlus fun F => ok_plus (k := 1) F (cFraction.mono (by decide))
  have cMinus : Cal l.prog w K mg base 2 "minus" ["a", "b"] (spMinusT K) := Cal.of gMinus fun F => ok_minus (k := 1) F (cFraction.mono (by decide))
  have cTimes : Cal l.prog w K mg base 2 "times" ["a", "b"] (spTimesT K) := Cal.of gTimes fun F => ok_times (k := 1) F (cFraction.mono (by decide))
  have cOver : Cal l.prog w K mg base 2 "over" ["a", "b"] (spOverT K) := Cal.of gOver fun F => ok_over (k := 1) F (cFraction.mono (by decide))
  have cTotal : Cal l.prog w K mg base 3 "total" ["values"] (spTotT K) := Cal.of gTotal fun F => ok_total (k := 2) F (cPlus.mono (by decide)) (PySem.W.mg_of X G yZ) hZ
  have cNumberOf : Cal l.prog w K mg base 3 "_number_of" ["count", "day"] (spNumT K numP) := Cal.of gNumberOf fun F => ok_numberof (k := 2) F (cDateOf.mono (by decide)) (cMLen.mono (by decide)) (cFraction.mono (by decide)) (cFraction1.mono (by decide)) (cPlus.mono (by decide)) z_min
  have cPart : Cal l.prog w K mg base 4 "part" ["count", "start", "end"] (spPartT K) := Cal.of gPart fun F => ok_part (k := 3) F (cNumberOf.mono (by decide)) (cMinus.mono (by decide)) (cOver.mono (by decide)) (cFraction1.mono (by decide)) (PySem.W.mg_of X G k_DIV) s_DIV hD
  have cInterest : Cal l.prog w K mg base 5 "interest" ["principal", "rate", "count", "start", "end"] (spIntT K) := Cal.of gInterest fun F => ok_interest (k := 4) F (cTimes.mono (by decide)) (cPart.mono (by decide))
  have cPaidP : Cal l.prog w K mg base 6 "_paid_periods" ["bond"] (spRows K CB) := Cal.of gPaidP fun F => ok_paidp (k := 5) F BC (cPeriods.mono (by decide)) z_max
  have cPayD : Cal l.prog w K mg base 7 "pay_days" ["bond"] (spPays K CB) := Cal.of gPayD fun F => ok_payd (k := 6) F (cPaidP.mono (by decide))
  have cUntil : Cal l.prog w K mg base 6 "_interest_until" ["bond", "start", "until", "period_rates"] (spUnt K CB) := Cal.of gUntil fun F => ok_until (k := 5) F BC (cInterest.mono (by decide))
  have cAccrued : Cal l.prog w K mg base 7 "accrued" ["bond", "day", "period_rates"] (spAcc K CB) := Cal.of gAccrued fun F => ok_accrued (k := 6) F (cPaidP.mono (by decide)) (cUntil.mono (by decide)) (cTotal.mono (by decide)) z_min
  have cCoup : Cal l.prog w K mg base 7 "_coupons" ["bond", "day", "period_rates"] (spCoup K CB) := Cal.of gCoup fun F => ok_coup (k := 6) F (cPaidP.mono (by decide)) (cUntil.mono (by decide)) (cTotal.mono (by decide))
  have cMay : Cal l.prog w K mg base 7 "may_be_called" ["bond", "day"] (fun _ _ _ _ => False) := Cal.of gMay fun F => ok_never
  have FFD : FunD K "falls_due" "falls_due" (defArgs sFalls) (defBody sFalls) (defScope sFalls) [] [("event", .non)] fFD _ := ⟨⟨ocF, odF, .none, .ref zK, dcF, pmF, anF, cdF, ctF, slF, rfl, lFD, cFD, .inl ⟨rfl, rfl⟩, .inr ⟨zK, rfl, fun q hq => by obtain rfl := List.mem_singleton.mp hq; exact ⟨_, vFD, rfl⟩⟩⟩, kFD⟩
  obtain ⟨cFallsD, cFallsK⟩ := kdFalls (P := l.prog) (w := w) (base := base) FFD (PySem.W.mg_of X G aFD) (ok_falls (k := 7) FFD BC (cMay.mono (by decide)) (cPayD.mono (by decide)) (cCoup.mono (by decide)) (cAccrued.mono (by decide)))
  have cLAdd : Cal l.prog w K mg base 3 "_law_add" ["a", "b"] (spAddP K) := Cal.of gLAdd fun F => ok_ladd (k := 2) F (cRatio.mono (by decide))
  have cLTimes : Cal l.prog w K mg base 3 "_law_times" ["a", "b"] (spTimesT K) := Cal.of gLTimes fun F => ok_ltimes (k := 2) F (cRatio.mono (by decide))
  have cLMinus : Cal l.prog w K mg base 4 "_law_minus" ["a", "b"] (spSubP K) := Cal.of gLMinus fun F => ok_lminus (k := 3) F (cLAdd.mono (by decide))
  have cLTotal : Cal l.prog w K mg base 4 "_law_total" ["values"] (spTotT K) := Cal.of gLTotal fun F => ok_ltotal (k := 3) F (cLAdd.mono (by decide))
  have cLDate : Cal l.prog w K mg base 1 "_law_date" ["day"] (spDateT K) := Cal.of gLDate fun F => ok_ldate (k := 0) F z_int
  have cLMD : Cal l.prog w K mg base 1 "_law_month_day" ["year", "month", "number"] spMD := Cal.of gLMD fun F => ok_lmd (k := 0) F z_sum z_min
  have cLLater : Cal l.prog w K mg base 2 "_law_later" ["day", "months"] spAddT := Cal.of gLLater fun F => ok_llater (k := 1) F (cLDate.mono (by decide)) (cLMD.mono (by decide)) z_int
  have cLAdj : Cal l.prog w K mg base 2 "_law_adjusted" ["day", "word"] spAdjT := Cal.of gLAdj fun F => ok_ladj (k := 1) F (cLDate.mono (by decide)) z_int
  have cLNum : Cal l.prog w K mg base 3 "_law_number_of" ["count", "day"] (spNumP K) := Cal.of gLNum fun F => ok_lnum (k := 2) F (cLDate.mono (by decide)) (cRatio.mono (by decide)) z_min
  have cLInt : Cal l.prog w K mg base 5 "_law_interest" ["bond", "rates", "start", "end"] (spLInt K CB) := Cal.of gLInt fun F => ok_lint (k := 4) F BC (cLMinus.mono (by decide)) (cLNum.mono (by decide)) (cLTimes.mono (by decide))
  have cLPer : Cal l.prog w K mg base 3 "_law_periods" ["bond"] (spRows K CB) := Cal.of gLPer fun F => ok_lper (k := 2) F BC (cLLater.mono (by decide)) (cLAdj.mono (by decide)) z_range z_len z_max
  have cLParts : Cal l.prog w K mg base 6 "_law_parts" ["bond", "rates", "day"] (spParts K CB) := Cal.of gLParts fun F => ok_lparts (k := 5) F (cLPer.mono (by decide)) (cLAdd.mono (by decide)) (cLInt.mono (by decide)) z_min
  have cLPaid : Cal l.prog w K mg base 9 "_law_paid" ["bond", "rates", "day", "event"] (spPaid K CB) := Cal.of gLPaid fun F => ok_lpaid (k := 8) F (cLPer.mono (by decide)) (cLAdd.mono (by decide)) (cFallsD.mono (by decide)) (cFallsK.mono (by decide))
  have cLRates : Cal l.prog w K mg base 4 "_law_rates" ["deck", "bond"] (spLRates K CB) := Cal.of gLRates fun F => ok_lrates (k := 3) F (cLPer.mono (by decide)) (cDraw.mono (by decide)) (cRatio.mono (by decide))
  have cLPaper : Cal l.prog w K mg base 3 "_law_paper" ["deck"] (spLPaper K CB) := Cal.of gLPaper fun F => ok_lpaper (k := 1) F MB (cDraw.mono (by decide)) (cRatio.mono (by decide)) z_range z_len
  exact ok_law (k := 9) (fun_mk (st := sLaw) l2 c2 k2) BC (cDeck.mono (by decide)) (cDraw.mono (by decide)) (cLPaper.mono (by decide)) (cLRates.mono (by decide)) (cLPer.mono (by decide)) (cLPaid.mono (by decide)) (cLParts.mono (by decide)) (cLInt.mono (by decide)) (cLTotal.mono (by decide)) z_len
end Cs
open PySem PySem.W PyProof.Rows
set_option maxHeartbeats 0 in
theorem PySem.Challenge.cw_consol_k49_whole_interest_to_the_day_holds : PySem.Challenge.rw_consol_k49_whole_interest_to_the_day.Holds := by
  w_on; o_law; k_head; (case hw => w_witness2)
  k_fill
  refine L2.walk_of (l := PySem.Challenge.rw_consol_k49_whole_interest_to_the_day) (n := 63) (k := 10) (x := "script") (CX := fun _ => L2.CX0) (sp := fun w => Cs.spLawT _) rfl (by decide) rfl ⟨rfl, by decide, by decide⟩ (fun w h Y => PySem.W.kIn_of Y) ?F (fun _ _ a ns hl _ hS => Cs.spL_in hS fun _ => rfl) (fun _ _ _ _ _ h => h)
  case F =>
    intro w mg fa h KX G hmg
    refine' Cs.all_mk KX G hmg (Cs.FunG.mk Cs.bdDeck KX G ?a0 ?l0 ?c0 ?k0) (Cs.FunG.mk Cs.bdDraw KX G ?a1 ?l1 ?c1 ?k1) (Cs.FunG.mk Cs.bdGcd KX G ?a2 ?l2 ?c2 ?k2) (Cs.FunG.mk Cs.bdRatio KX G ?a3 ?l3 ?c3 ?k3) (Cs.FunG.mk Cs.bdCheck KX G ?a4 ?l4 ?c4 ?k4) (Cs.FunG.mk Cs.bdMLen KX G ?a5 ?l5 ?c5 ?k5) (Cs.FunG.mk Cs.bdDateOf KX G ?a6 ?l6 ?c6 ?k6) (Cs.FunG.mk Cs.bdDayOf KX G ?a7 ?l7 ?c7 ?k7) (Cs.FunG.mk Cs.bdWeekday KX G ?a8 ?l8 ?c8 ?k8) (Cs.FunG.mk Cs.bdBus KX G ?a9 ?l9 ?c9 ?k9) (Cs.FunG.mk Cs.bdCkWord KX G ?a10 ?l10 ?c10 ?k10) (Cs.FunG.mk Cs.bdMonthOf KX G ?a11 ?l11 ?c11 ?k11) (Cs.FunG.mk Cs.bdAdjust KX G ?a12 ?l12 ?c12 ?k12) (Cs.FunG.mk Cs.bdAddM KX G ?a13 ?l13 ?c13 ?k13) (Cs.FunG.mk Cs.bdSched KX G ?a14 ?l14 ?c14 ?k14) (Cs.FunG.mk Cs.bdPeriods KX G ?a15 ?l15 ?c15 ?k15) (Cs.FunG.mk Cs.bdPlus KX G ?a16 ?l16 ?c16 ?k16) (Cs.FunG.mk Cs.bdMinus KX G ?a17 ?l17 ?c17 ?k17) (Cs.FunG.mk Cs.bdTimes KX G ?a18 ?l18 ?c18 ?k18) (Cs.FunG.mk Cs.bdOver KX G ?a19 ?l19 ?c19 ?k19) (Cs.FunG.mk Cs.bdTotal KX G ?a20 ?l20 ?c20 ?k20) (Cs.FunG.mk Cs.bdNumberOf KX G ?a21 ?l21 ?c21 ?k21) (Cs.FunG.mk Cs.bdPart KX G ?a22 ?l22 ?c22 ?k22) (Cs.FunG.mk Cs.bdInterest KX G ?a23 ?l23 ?c23 ?k23) (Cs.FunG.mk Cs.bdPaidP KX G ?a24 ?l24 ?c24 ?k24) (Cs.FunG.mk Cs.bdPayD KX G ?a25 ?l25 ?c25 ?k25) (Cs.FunG.mk Cs.bdUntil KX G ?a26 ?l26 ?c26 ?k26) (Cs.FunG.mk Cs.bdAccrued KX G ?a27 ?l27 ?c27 ?k27) (Cs.FunG.mk Cs.bdCoup KX G ?a28 ?l28 ?c28 ?k28) (Cs.FunG.mk Cs.bdMay KX G ?a29 ?l29 ?c29 ?k29) (Cs.FunG.mk Cs.bdLAdd KX G ?a30 ?l30 ?c30 ?k30) (Cs.FunG.mk Cs.bdLTimes KX G ?a31 ?l31 ?c31 ?k31) (Cs.FunG.mk Cs.bdLMinus KX G ?a32 ?l32 ?c32 ?k32) (Cs.FunG.mk Cs.bdLTotal KX G ?a33 ?l33 ?c33 ?k33) (Cs.FunG.mk Cs.bdLDate KX G ?a34 ?l34 ?c34 ?k34) (Cs.FunG.mk Cs.bdLMD KX G ?a35 ?l35 ?c35 ?k35) (Cs.FunG.mk Cs.bdLLater KX G ?a36 ?l36 ?c36 ?k36) (Cs.FunG.mk Cs.bdLAdj KX G ?a37 ?l37 ?c37 ?k37) (Cs.FunG.mk Cs.bdLNum KX G ?a38 ?l38 ?c38 ?k38) (Cs.FunG.mk Cs.bdLInt KX G ?a39 ?l39 ?c39 ?k39) (Cs.FunG.mk Cs.bdLPer KX G ?a40 ?l40 ?c40 ?k40) (Cs.FunG.mk Cs.bdLParts KX G ?a41 ?l41 ?c41 ?k41) (Cs.FunG.mk Cs.bdLPaid KX G ?a42 ?l42 ?c42 ?k42) (Cs.FunG.mk Cs.bdLRates KX G ?a43 ?l43 ?c43 ?k43) (Cs.FunG.mk Cs.bdLPaper KX G ?a44 ?l44 ?c44 ?k44) (Cs.FunDG.mk 1 Cs.bdFraction0 Cs.bdFraction1 KX G ?aD0 ?lD0 ?cD0 ?kD0 ?tD0 (by simp) ?vD0 rfl) ?aLw ?lLw ?cLw ?kLw ?y_len ?y_int ?y_abs ?y_range ?y_list ?y_divmod ?y_sum ?y_min ?y_max ?y_zip ?y_gcd ?k_DAYS_OF_YEAR ?k_DAYS_OF_WEEK ?k_LAST_BUSINESS ?k_MONTHS_OF_YEAR ?yZ ?lZ ?k_LENGTHS ?l_LENGTHS ?k_ADJ ?l_ADJ ?k_DIV ?l_DIV ?v_fixed ?v_thirty ?v_plain ?s_DIV ?kl_DIV ?aFD ?lFD ?cFD ?kFD ?vFD ?aB ?iB ?jB ?lB ?cB ?kB ?pgB ?hdB ?poB ?saB ?mkB ?kcB ?nB0 ?nB1 ?nB2 ?nB3 ?nB4 ?nB5 ?nB6 ?nB7 ?nB8 ?nB9 ?nB10 ?nB11 ?nB12 ?nB13 ?nB14 ?nB15
    (case a0 => k_is)
    (case l0 => k_is)
    (case c0 => k_is)
    (case k0 => k_is)
    (case a1 => k_is)
    (case l1 => k_is)
    (case c1 => k_is)
    (case k1 => k_is)
    (case a2 => k_is)
    (case l2 => k_is)
    (case c2 => k_is)
    (case k2 => k_is)
    (case a3 => k_is)
    (case l3 => k_is)
    (case c3 => k_is)
    (case k3 => k_is)
    (case a4 => k_is)
    (case l4 => k_is)
    (case c4 => k_is)
    (case k4 => k_is)
    (case a5 => k_is)
    (case l5 => k_is)
    (case c5 => k_is)
    (case k5 => k_is)
    (case a6 => k_is)
    (case l6 => k_is)
    (case c6 => k_is)
    (case k6 => k_is)
    (case a7 => k_is)
    (case l7 => k_is)
    (case c7 => k_is)
    (case k7 => k_is)
    (case a8 => k_is)
    (case l8 => k_is)
    (case c8 => k_is)
    (case k8 => k_is)
    (case a9 => k_is)
    (case l9 => k_is)
    (case c9 => k_is)
    (case k9 => k_is)
    (case a10 => k_is)
    (case l10 => k_is)
    (case c10 => k_is)
    (case k10 => k_is)
    (case a11 => k_is)
    (case l11 => k_is)
    (case c11 => k_is)
    (case k11 => k_is)
    (case a12 => k_is)
    (case l12 => k_is)
    (case c12 => k_is)
    (case k12 => k_is)
    (case a13 => k_is)
    (case l13 => k_is)
    (case c13 => k_is)
    (case k13 => k_is)
    (case a14 => k_is)
    (case l14 => k_is)
    (case c14 => k_is)
    (case k14 => k_is)
    (case a15 => k_is)
    (case l15 => k_is)
    (case c15 => k_is)
    (case k15 => k_is)
    (case a16 => k_is)
    (case l16 => k_is)
    (case c16 => k_is)
    (case k16 => k_is)
    (case a17 => k_is)
    (case l17 => k_is)
    (case c17 => k_is)
    (case k17 => k_is)
    (case a18 => k_is)
    (case l18 => k_is)
    (case c18 => k_is)
    (case k18 => k_is)
    (case a19 => k_is)
    (case l19 => k_is)
    (case c19 => k_is)
    (case k19 => k_is)
    (case a20 => k_is)
    (case l20 => k_is)
    (case c20 => k_is)
    (case k20 => k_is)
    (case a21 => k_is)
    (case l21 => k_is)
    (case c21 => k_is)
    (case k21 => k_is)
    (case a22 => k_is)
    (case l22 => k_is)
    (case c22 => k_is)
    (case k22 => k_is)
    (case a23 => k_is)
    (case l23 => k_is)
    (case c23 => k_is)
    (case k23 => k_is)
    (case a24 => k_is)
    (case l24 => k_is)
    (case c24 => k_is)
    (case k24 => k_is)
    (case a25 => k_is)
    (case l25 => k_is)
    (case c25 => k_is)
    (case k25 => k_is)
    (case a26 => k_is)
    (case l26 => k_is)
    (case c26 => k_is)
    (case k26 => k_is)
    (case a27 => k_is)
    (case l27 => k_is)
    (case c27 => k_is)
    (case k27 => k_is)
    (case a28 => k_is)
    (case l28 => k_is)
    (case c28 => k_is)
    (case k28 => k_is)
    (case a29 => k_is)
    (case l29 => k_is)
    (case c29 => k_is)
    (case k29 => k_is)
    (case a30 => k_is)
    (case l30 => k_is)
    (case c30 => k_is)
    (case k30 => k_is)
    (case a31 => k_is)
    (case l31 => k_is)
    (case c31 => k_is)
    (case k31 => k_is)
    (case a32 => k_is)
    (case l32 => k_is)
    (case c32 => k_is)
    (case k32 => k_is)
    (case a33 => k_is)
    (case l33 => k_is)
    (case c33 => k_is)
    (case k33 => k_is)
    (case a34 => k_is)
    (case l34 => k_is)
    (case c34 => k_is)
    (case k34 => k_is)
    (case a35 => k_is)
    (case l35 => k_is)
    (case c35 => k_is)
    (case k35 => k_is)
    (case a36 => k_is)
    (case l36 => k_is)
    (case c36 => k_is)
    (case k36 => k_is)
    (case a37 => k_is)
    (case l37 => k_is)
    (case c37 => k_is)
    (case k37 => k_is)
    (case a38 => k_is)
    (case l38 => k_is)
    (case c38 => k_is)
    (case k38 => k_is)
    (case a39 => k_is)
    (case l39 => k_is)
    (case c39 => k_is)
    (case k39 => k_is)
    (case a40 => k_is)
    (case l40 => k_is)
    (case c40 => k_is)
    (case k40 => k_is)
    (case a41 => k_is)
    (case l41 => k_is)
    (case c41 => k_is)
    (case k41 => k_is)
    (case a42 => k_is)
    (case l42 => k_is)
    (case c42 => k_is)
    (case k42 => k_is)
    (case a43 => k_is)
    (case l43 => k_is)
    (case c43 => k_is)
    (case k43 => k_is)
    (case a44 => k_is)
    (case l44 => k_is)
    (case c44 => k_is)
    (case k44 => k_is)
    (case aD0 => k_is)
    (case lD0 => k_is)
    (case cD0 => k_is)
    (case kD0 => k_is)
    (case tD0 => k_is)
    (case vD0 => exact (.cons ⟨_, rfl⟩ .nil))
    (case aLw => k_is)
    (case lLw => k_is)
    (case cLw => k_is)
    (case kLw => k_is)
    (case y_len => k_is)
    (case y_int => k_is)
    (case y_abs => k_is)
    (case y_range => k_is)
    (case y_list => k_is)
    (case y_divmod => k_is)
    (case y_sum => k_is)
    (case y_min => k_is)
    (case y_max => k_is)
    (case y_zip => k_is)
    (case y_gcd => k_is)
    (case k_DAYS_OF_YEAR => k_is)
    (case k_DAYS_OF_WEEK => k_is)
    (case k_LAST_BUSINESS => k_is)
    (case k_MONTHS_OF_YEAR => k_is)
    (case yZ => k_is)
    (case lZ => k_is)
    (case k_LENGTHS => k_is)
    (case l_LENGTHS => k_is)
    (case k_ADJ => k_is)
    (case l_ADJ => k_is)
    (case k_DIV => k_is)
    (case l_DIV => k_is)
    (case v_fixed => k_is)
    (case v_thirty => k_is)
    (case v_plain => k_is)
    (case s_DIV => first | rfl | decide)
    (case kl_DIV => exact ⟨⟨_, _, rfl, rfl⟩, ⟨_, _, rfl, rfl⟩, ⟨_, _, rfl, rfl⟩, trivial⟩)
    (case aFD => k_is)
    (case lFD => k_is)
    (case cFD => k_is)
    (case kFD => k_is)
    (case vFD => k_is)
    (case aB => k_is)
    (case iB => k_is)
    (case jB => k_is)
    (case lB => k_is)
    (case cB => k_is)
    (case kB => k_is)
    (case pgB => k_is)
    (case hdB => k_is)
    (case poB => k_is)
    (case saB => k_is)
    (case mkB => k_is)
    (case kcB => k_is)
    (case nB0 => k_is)
    (case nB1 => k_is)
    (case nB2 => k_is)
    (case nB3 => k_is)
    (case nB4 => k_is)
    (case nB5 => k_is)
    (case nB6 => k_is)
    (case nB7 => k_is)
    (case nB8 => k_is)
    (case nB9 => k_is)
    (case nB10 => k_is)
    (case nB11 => k_is)
    (case nB12 => k_is)
    (case nB13 => k_is)
    (case nB14 => k_is)
    (case nB15 => k_is)
