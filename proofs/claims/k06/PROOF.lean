import PyProof.Rows.All
import Wide.All
import OpenK.AllK
import Wide.FinOn
import HandS.ForMost
import HandS.Wide
import HandS.Gcd
import HandS.IsInst
import HandS.Defaults
import HandS.EndBits
import HandS.ForExc
import HandS.ExcIs
import HandS.Zip
import HandS.TupLe
import HandS.TryMany
import HandS.CallLocal
import HandS.CallSlots
import KE.KTupSum
import HandS.Walk
import HandS.ExcInit
import HandS.Star
import PySem.Challenge.RW_consol_k06_whole_kernel_or_one
import HandS.Dict
import HandS.DictComp
import HandS.MakeKwOnly
import HandS.Rev
import HandS.RevTup
import KE.KRevIter
import PyProof.ListNew
import HandS.ExcField
import HandS.Property
import HandS.More
import HandS.Iter
import PyProof.ReprRoads
import PyProof.ReprBulk
import PyProof.FitsInt
import PyProof.DictMoreH
import KE.KDictWalk
import KE.KDictCopyH
import HandS.Conv
import KE.SortKeyHeap
import HandS.SortKw
import HandS.GenList
import HandS.AnyAll
import HandS.Comp
import HandS.Text
import HandS.Codes
import HandS.StrMore
import HandS.FStr
import HandS.JoinGen
import HandS.EndTab
import HandS.ExcInitHot
import KE.IntTextLaws
import KE.IntTextText
import PyProof.StrLawsAffix
import HandS.WideBits
import PyProof.StrOps2
import HandS.WrittenGet
import PyProof.DictTable
import PyProof.SumAny
import HandS.Deep
import HandS.SetBool
import HandS.Style
import KE.KeyNested
import HandS.Flow
import PyProof.WalkInts
import PyProof.PureStr
import PyProof.Rows.StrInSeq3
import HandS.Finally
import HandS.RevRange
import KE.KMathGC
set_option Elab.async false
set_option linter.all false
set_option maxRecDepth 100000
set_option exponentiation.threshold 20000
namespace Cs
/-- the pair a fraction is -/
theorem divInt_pos (p q : Int) (hq : 0 < q) : (Rat.divInt p q).num = p / (Nat.gcd p.natAbs q.natAbs : Nat) ∧ ((Rat.divInt p q).den : Int) = q / (Nat.gcd p.natAbs q.natAbs : Nat) := by
  obtain ⟨n, rfl⟩ : ∃ n : Nat, q = (n : Int) := ⟨q.toNat, by omega⟩
  have hn : n ≠ 0 := by omega
  have e : Rat.divInt p (n : Int) = Rat.normalize p n hn := by
    rw [Rat.divInt_ofNat, ← Rat.normalize_eq_mkRat]
  rw [e, Rat.normalize_eq]
  refine ⟨rfl, ?_⟩
  show ((n / Nat.gcd p.natAbs n : Nat) : Int) = (n : Int) / (Nat.gcd p.natAbs (n : Int).natAbs : Nat)
  rw [Int.natAbs_natCast, Int.natCast_ediv]
theorem neg_ediv_dvd {a g : Int} (h : g ∣ a) : (-a) / g = -(a / g) := by
  obtain ⟨k, rfl⟩ := h
  by_cases hg : g = 0
  · subst hg; simp
  · rw [← Int.mul_neg, Int.mul_ediv_cancel_left _ hg, Int.mul_ediv_cancel_left _ hg]
theorem fdiv_neg_dvd {a g : Int} (hg : 0 < g) (h : g ∣ a) : a.fdiv (-g) = -(a / g) := by
  rw [Int.fdiv_neg (by omega), if_pos h, Int.fdiv_eq_ediv_of_nonneg _ (by omega)]
theorem gcd_dvd_p (p q : Int) : ((Nat.gcd p.natAbs q.natAbs : Nat) : Int) ∣ p := Int.ofNat_dvd_left.mpr (Nat.gcd_dvd_left _ _)
theorem gcd_dvd_q (p q : Int) : ((Nat.gcd p.natAbs q.natAbs : Nat) : Int) ∣ q := Int.ofNat_dvd_left.mpr (Nat.gcd_dvd_right _ _)
theorem gcd_pos (p q : Int) (hq : q ≠ 0) : 0 < ((Nat.gcd p.natAbs q.natAbs : Nat) : Int) := by
  have : 0 < Nat.gcd p.natAbs q.natAbs := Nat.gcd_pos_of_pos_right _ (by omega)
  omega
/-- what fraction computes -/
theorem frac_num (p q : Int) (hq : q ≠ 0) : (p.fdiv (if q < 0 then -((Nat.gcd p.natAbs q.natAbs : Nat) : Int) else ((Nat.gcd p.natAbs q.natAbs : Nat) : Int))) = (Rat.divInt p q).num := by
  have hg := gcd_pos p q hq
  split
  · rename_i h
    rw [fdiv_neg_dvd hg (gcd_dvd_p p q)]
    have e : Rat.divInt p q = Rat.divInt (-p) (-q) := by rw [Rat.neg_divInt_neg]
    rw [e, (divInt_pos (-p) (-q) (by omega)).1, Int.natAbs_neg, Int.natAbs_neg, neg_ediv_dvd (gcd_dvd_p p q)]
  · rename_i h
    rw [(divInt_pos p q (by omega)).1, Int.fdiv_eq_ediv_of_nonneg _ (by omega)]
theorem frac_den (p q : Int) (hq : q ≠ 0) : (q.fdiv (if q < 0 then -((Nat.gcd p.natAbs q.natAbs : Nat) : Int) else ((Nat.gcd p.natAbs q.natAbs : Nat) : Int))) = ((Rat.divInt p q).den : Int) := by
  have hg := gcd_pos p q hq
  split
  · rename_i h
    rw [fdiv_neg_dvd hg (gcd_dvd_q p q)]
    have e : Rat.divInt p q = Rat.divInt (-p) (-q) := by rw [Rat.neg_divInt_neg]
    rw [e, (divInt_pos (-p) (-q) (by omega)).2, Int.natAbs_neg, Int.natAbs_neg, neg_ediv_dvd (gcd_dvd_q p q)]
  · rename_i h
    rw [(divInt_pos p q (by omega)).2, Int.fdiv_eq_ediv_of_nonneg _ (by omega)]
/-! sizes -/
def Sz (n : Nat) (r : Rat) : Prop := r.num.natAbs < 2 ^ n ∧ r.den < 2 ^ n
theorem Sz.mono {n m : Nat} {r : Rat} (h : Sz n r) (k : n ≤ m) : Sz m r :=
  ⟨Nat.lt_of_lt_of_le h.1 (Nat.pow_le_pow_right (by decide) k), Nat.lt_of_lt_of_le h.2 (Nat.pow_le_pow_right (by decide) k)⟩
theorem sz_div {n : Nat} {p q : Int} (hq : q ≠ 0) (hp : p.natAbs < 2 ^ n) (h : q.natAbs < 2 ^ n) : Sz n (Rat.divInt p q) := by
  have hg := gcd_pos p q hq
  have key : ∀ p q : Int, 0 < q → p.natAbs < 2 ^ n → q.natAbs < 2 ^ n → Sz n (Rat.divInt p q) := by
    intro p q hq hp h
    have e1 := (divInt_pos p q hq).1
    have e2 := (divInt_pos p q hq).2
    refine ⟨?_, ?_⟩
    · rw [e1]
      refine Nat.lt_of_le_of_lt ?_ hp
      rw [Int.natAbs_ediv_of_dvd (gcd_dvd_p p q)]
      exact Nat.div_le_self _ _
    · have : (Rat.divInt p q).den = q.natAbs / (Nat.gcd p.natAbs q.natAbs) := by
        have : (((Rat.divInt p q).den : Int)).natAbs = (q / (Nat.gcd p.natAbs q.natAbs : Nat)).natAbs := by rw [e2]
        rw [Int.natAbs_natCast, Int.natAbs_ediv_of_dvd (gcd_dvd_q p q), Int.natAbs_natCast] at this
        exact this
      rw [this]
      exact Nat.lt_of_le_of_lt (Nat.div_le_self _ _) h
  by_cases hn : q < 0
  · have e : Rat.divInt p q = Rat.divInt (-p) (-q) := by rw [Rat.neg_divInt_neg]
    rw [e]
    exact key _ _ (by omega) (by rw [Int.natAbs_neg]; exact hp) (by rw [Int.natAbs_neg]; exact h)
  · exact key p q (by omega) hp h
theorem pow_lt {i j : Int} {a b : Nat} (ha : i.natAbs < 2 ^ a) (hb : j.natAbs < 2 ^ b) : (i * j).natAbs < 2 ^ (a + b) := by
  rw [Int.natAbs_mul, Nat.pow_add]
  exact Nat.mul_lt_mul'' ha hb
theorem add_lt {i j : Int} {a : Nat} (ha : i.natAbs < 2 ^ a) (hb : j.natAbs < 2 ^ a) : (i + j).natAbs < 2 ^ (a + 1) := by
  have : (2 : Nat) ^ (a + 1) = 2 ^ a * 2 := Nat.pow_succ ..
  omega
theorem sub_lt {i j : Int} {a : Nat} (ha : i.natAbs < 2 ^ a) (hb : j.natAbs < 2 ^ a) : (i - j).natAbs < 2 ^ (a + 1) := by
  have : (2 : Nat) ^ (a + 1) = 2 ^ a * 2 := Nat.pow_succ ..
  omega
theorem den_ne (r : Rat) : (r.den : Int) ≠ 0 := by have := r.den_nz; omega
theorem add_div (r s : Rat) : Rat.divInt (r.num * s.den + s.num * r.den) (r.den * s.den) = r + s := by
  rw [← Rat.divInt_add_divInt _ _ (den_ne r) (den_ne s), Rat.num_divInt_den, Rat.num_divInt_den]
theorem mul_div (r s : Rat) : Rat.divInt (r.num * s.num) (r.den * s.den) = r * s := by
  rw [← Rat.divInt_mul_divInt, Rat.num_divInt_den, Rat.num_divInt_den]
/-! Euclid's steps -/
def EG (g : Nat) (N i : Nat) (a b : Nat) : Prop := Nat.gcd a b = g ∧ (i = 0 → a * b < 2 ^ N) ∧ (0 < i → b < a ∧ a * b < 2 ^ (N + 1 - i))
theorem EG.start {N a b : Nat} (h : a * b < 2 ^ N) : EG (Nat.gcd a b) N 0 a b := ⟨rfl, fun _ => h, fun z => absurd z (by decide)⟩
theorem EG.step {g N i a b : Nat} (h : EG g N i a b) (hb : 0 < b) (hi : i ≤ N) : EG g N (i + 1) b (a % b) := by
  obtain ⟨h1, h2, h3⟩ := h
  have hlt : a % b < b := Nat.mod_lt _ hb
  refine ⟨?_, fun z => absurd z (by omega), fun _ => ⟨hlt, ?_⟩⟩
  · rw [← h1, Nat.gcd_comm a b, Nat.gcd_rec b a, Nat.gcd_comm]
  · by_cases h0 : i = 0
    · subst h0
      have e := h2 rfl
      rw [show N + 1 - (0 + 1) = N by omega]
      refine Nat.lt_of_le_of_lt ?_ e
      rw [Nat.mul_comm a b]
      exact Nat.mul_le_mul_left _ (Nat.mod_le _ _)
    · obtain ⟨hba, hp⟩ := h3 (by omega)
      have e1 : N + 1 - i = (N + 1 - (i + 1)) + 1 := by omega
      rw [e1, Nat.pow_succ] at hp
      have hd := Nat.div_add_mod a b
      have hq : 1 ≤ a / b := Nat.div_pos (Nat.le_of_lt hba) hb
      have ha : b + a % b ≤ a := by
        have : b * 1 ≤ b * (a / b) := Nat.mul_le_mul_left _ hq
        omega
      have : b * (a % b) * 2 ≤ a * b := by
        have h5 : b * (a % b) + b * (a % b) ≤ b * (b + a % b) := by
          rw [Nat.mul_add]
          exact Nat.add_le_add_right (Nat.mul_le_mul_left _ (Nat.le_of_lt hlt)) _
        have h6 : b * (b + a % b) ≤ b * a := Nat.mul_le_mul_left _ ha
        rw [Nat.mul_comm a b]
        omega
      omega
theorem EG.zero {g N i a : Nat} (h : EG g N i a 0) : a = g := by
  have := h.1
  rwa [Nat.gcd_zero_right] at this
theorem EG.last {g N a b : Nat} (h : EG g N (N + 1) a b) : b = 0 := by
  obtain ⟨h1, h2⟩ := h.2.2 (by omega)
  rw [show N + 1 - (N + 1) = 0 by omega, Nat.pow_zero] at h2
  cases b with
  | zero => rfl
  | succ b =>
    have : 1 * 1 ≤ a * (b + 1) := Nat.mul_le_mul (by omega) (by omega)
    omega
end Cs
set_option maxHeartbeats 4000000
namespace Cs
open PySem PySem.Spec PyProof.Rows L2
/-! ### operators at any size -/
def CDivA (_ j : Int) : Prop := j ≠ 0 ∧ j.natAbs < 2 ^ 9000
section
variable {X : Cx}
theorem op_fdivA : OpR X (binaryOp .FloorDiv) (rI CDivA fun i j => .int (i.fdiv j)) := opI fun _ _ _ _ _ _ _ hc q =>
  floordiv_int hc.1 q (.inl (PyProof.noPylong_of_log2 (PySem.Flt.log2_lt_of (by decide) hc.2)))
theorem op_mulA : OpR X (binaryOp .Mult) (rI IntMulOk fun i j => .int (i * j)) := opI fun _ _ _ _ _ _ _ hc q => mul_int q hc
end
theorem mulR {i j : Int} (h : j.natAbs < 2 ^ 64) : IntMulOk i j := CMul.ok (.inr (by omega))
theorem mulB {i j : Int} {a : Nat} (hi : i.natAbs < 2 ^ a) (hj : j.natAbs < 2 ^ a) (h0 : 0 < a) (h : a ≤ 500000) : IntMulOk i j := (wide_mul hi hj h0 h0 (by omega)).ok
/-! ### a def that may be called -/
def Cal (P : Program) (w : World) (K : PySem.W.Frag) (mg : Str → Option Value) (base : Heap) (k : Nat) (x : Str) (ps : List Str) (sp : Sp) : Prop :=
  ∃ (f : Addr) (fd : FuncData), FnOk P w K mg base CX0 k f fd ps sp ∧ mg x = some (.ref f) ∧ PySem.W.keepIn K (.ref f) = true ∧ Binds K fd ps []
/-- a def of the text, with its place and how it binds -/
def FunG (K : PySem.W.Frag) (mg : Str → Option Value) (x : Str) (st : Stmt) (ps : List Str) : Prop :=
  ∃ (f : Addr) (fd : FuncData), Fun K x x st f fd ∧ mg x = some (.ref f) ∧ Binds K fd ps []
section
variable {P : Program} {w : World} {K : PySem.W.Frag} {mg : Str → Option Value} {base : Heap} {k j : Nat} {x : Str} {ps : List Str} {sp sp' : Sp} {st : Stmt}
theorem Cal.of (F : FunG K mg x st ps) (h : ∀ {f : Addr} {fd : FuncData}, Fun K x x st f fd → FnOk P w K mg base CX0 k f fd ps sp) : Cal P w K mg base k x ps sp := by
  obtain ⟨f, fd, F, g, b⟩ := F
  exact ⟨f, fd, h F, g, F.kp, b⟩
theorem Cal.mono (c : Cal P w K mg base j x ps sp) (h : j ≤ k) : Cal P w K mg base k x ps sp := by
  obtain ⟨f, fd, F, g⟩ := c
  exact ⟨f, fd, F.mono h, g⟩
theorem Cal.imp (c : Cal P w K mg base k x ps sp) (h : ∀ vs H Q E, sp' vs H Q E → sp vs H Q E) : Cal P w K mg base k x ps sp' := by
  obtain ⟨f, fd, F, g⟩ := c
  exact ⟨f, fd, F.imp h, g⟩
theorem FunG.of {f : Addr} {fd : FuncData} (F : Fun K x x st f fd) (g : mg x = some (.ref f)) (b : Binds K fd ps []) : FunG K mg x st ps := ⟨f, fd, F, g, b⟩
end
section
variable {X : Cx} {k : Nat} {x : Str} {ps : List Str} {sp : Sp} {p pos : Pos} {e : Expr} {es : List Expr} {t : TA}
theorem pe_cal (c : Cal X.prog X.w X.K X.mg X.base k x ps sp) (hr : Room k X.A) (hg : Gl X x) (ha : PA X (e :: es) t) (hdb : (x == ("__debug__" : Str)) = false := by decide)
    (he : starEach (e :: es) X.env = (false, eval e X.env) :: starEach es X.env := by rfl) (hpl : (backTo pos (starEach es X.env)).any (·.1) = false := by rfl) :
    PE X (.Call (.Name x p) (e :: es) [] pos) (tCall sp [] E0 t) := by
  obtain ⟨f, fd, F, g, kp, b⟩ := c
  exact pe_call F hr hg g kp b .nil pass0 ha hdb he hpl
end
/-! ### heaps -/
/-- all but d is as it was -/
def But (d : Addr) (H H' : Hp) : Prop := ∀ b o, b ≠ d → H b = some o → H' b = some o
theorem But.refl {d : Addr} {H : Hp} : But d H H := fun _ _ _ h => h
theorem But.trans {d : Addr} {H H1 H2 : Hp} (a : But d H H1) (b : But d H1 H2) : But d H H2 := fun c o n h => b c o n (a c o n h)
theorem But.upd {d : Addr} {H : Hp} {o : HO} : But d H (upd H d o) := fun b o' n h => by rw [upd_ne n]; exact h
theorem Same.new {H : Hp} {p : Addr} {o : HO} (h : H p = none) : Same H (upd H p o) := fun b x e => by
  rw [upd_ne (ne_of_none e h)]
  exact e
theorem But.seq {K : PySem.W.Frag} {d a : Addr} {xs : List V} {H H' : Hp} (b : But d H H') (n : a ≠ d) (h : SqL K H a xs) : SqL K H' a xs := by
  rcases h with (h | ⟨o, h⟩) | h
  · exact .inl (.inl (b _ _ n h))
  · exact .inl (.inr ⟨o, b _ _ n h⟩)
  · exact .inr h
theorem But.tup {d a : Addr} {xs : List V} {H H' : Hp} {ys : List V} (b : But d H H') (hd : H d = some (.lst ys)) (h : H a = some (.tup xs)) : H' a = some (.tup xs) :=
  b a _ (ne_of h hd (fun z => nomatch z)) h
/-! ### the deck: the script's list, the next cell, what is left of a cell, the state -/
def DeckO (l : Addr) (b c e : Int) : HO := .lst [.ref l, .int b, .int c, .int e]
def Deck (K : PySem.W.Frag) (H : Hp) (d : Addr) : Prop := ∃ (l : Addr) (ns : List Int) (b c e : Int), H d = some (DeckO l b c e) ∧ SqL K H l (ns.map V.int) ∧ l ≠ d ∧ 0 ≤ b
theorem Deck.same {K : PySem.W.Frag} {H H' : Hp} {d : Addr} (s : Same H H') (h : Deck K H d) : Deck K H' d := by
  obtain ⟨l, ns, b, c, e, h1, h2, h3, h4⟩ := h
  exact ⟨l, ns, b, c, e, s _ _ h1, s.seq h2, h3, h4⟩
theorem Deck.lst {K : PySem.W.Frag} {H : Hp} {d : Addr} (h : Deck K H d) : ∃ ys, H d = some (.lst ys) := by
  obtain ⟨l, ns, b, c, e, h1, h2, h3, h4⟩ := h
  exact ⟨_, h1⟩
theorem cell_at {ns : List Int} {b : Int} (b0 : 0 ≤ b) (h : b < (ns.length : Int)) : ∃ z, atI (ns.map V.int) b = some (.int z) := by
  obtain ⟨j, rfl⟩ : ∃ j : Nat, b = (j : Int) := ⟨b.toNat, by omega⟩
  have hj : j < ns.length := by omega
  exact ⟨ns[j], atI_nat (by rw [List.getElem?_map, List.getElem?_eq_getElem hj]; rfl)⟩
/-! ### fractions -/
def nd (r : Rat) : HO := .tup [.int r.num, .int (r.den : Int)]
def spFrac : Sp := fun vs H Q _ => ∃ p q : Int, vs = [.int p, .int q] ∧ q ≠ 0 ∧ q.natAbs < 2 ^ 9000 ∧ ∀ t H', Same H H' → H t = none → H' t = some (nd (Rat.divInt p q)) → Q (.ref t) H'
def spGcd : Sp := fun vs H Q _ => ∃ a b : Nat, vs = [.int a, .int b] ∧ a < 2 ^ 2400 ∧ b < 2 ^ 2400 ∧ Q (.int (Nat.gcd a b : Nat)) H
def spRatio : Sp := fun vs H Q _ => ∃ p q : Int, vs = [.int p, .int q] ∧ q ≠ 0 ∧ p.natAbs < 2 ^ 2400 ∧ q.natAbs < 2 ^ 2400 ∧ ∀ t H', Same H H' → H t = none → H' t = some (nd (Rat.divInt p q)) → Q (.ref t) H'
/-- -1, 0 or 1 -/
def cmpR (r s : Rat) : Int := (r.num * s.den - s.num * r.den).sign
/-! ### isinstance -/
theorem kit_ii : kitB "int" "int" = some true := by decide +kernel
theorem kit_ib : kitB "int" "bool" = some false := by decide +kernel
theorem kit_it : kitB "int" "tuple" = some false := by decide +kernel
theorem kit_bi : kitB "bool" "int" = some true := by decide +kernel
theorem kit_bb : kitB "bool" "bool" = some true := by decide +kernel
theorem kit_bt : kitB "bool" "tuple" = some false := by decide +kernel
/-- same as the law's own: ints, truths, fractions -/
def spSame0 : Sp := fun vs H Q _ => (∃ i j : Int, vs = [.int i, .int j] ∧ Q (.bl (decide (i = j))) H) ∨ (∃ a b : Bool, vs = [.bl a, .bl b] ∧ Q (.bl (decide (a = b))) H)
theorem Sz.int {k : Nat} {n : Int} (h : n.natAbs < 2 ^ k) (hk : 0 < k) : Sz k (n : Rat) := ⟨h, Nat.one_lt_two_pow (by omega)⟩
theorem Sz.nn {n : Nat} {r : Rat} (h : Sz n r) : r.num.natAbs < 2 ^ n := h.1
theorem Sz.dd {n : Nat} {r : Rat} (h : Sz n r) : ((r.den : Int)).natAbs < 2 ^ n := by rw [Int.natAbs_natCast]; exact h.2
theorem lt9 {i : Int} {a : Nat} (h : i.natAbs < 2 ^ a) (k : a ≤ 9000) : i.natAbs < 2 ^ 9000 := Nat.lt_of_lt_of_le h (Nat.pow_le_pow_right (by decide) k)
theorem sz_zero {n : Nat} (h : 0 < n) : Sz n 0 := ⟨Nat.two_pow_pos n, Nat.one_lt_two_pow (by omega)⟩
/-! ### what the top has written -/
section
variable {K : PySem.W.Frag} {h : Heap} {mg : Str → Option Value}
theorem FunG.mk {x : Str} {st : Stmt} {ps : List Str} {f : Addr} {od an : Option Addr} {sl : Array (Option Value)} {oc kV dc pm cd ct : Value}
    (hb : ∀ (kV doc pm : Value) (an : Option Addr) (cdv ct : Value) (us : List Value), us.length = ps.length → bindArgs (PySem.W.fnOf x x (defArgs st) (defBody st) (defScope st) .none kV doc pm an cdv ct) ⟨us, []⟩ = pure (ps.zip us))
    (X : K.In h) (G : h.Ns mainGlobals mg)
    (a : PySem.W.nsIn K mainGlobals x = some (some (.ref f))) (l : K.lookup f = some ⟨oc, od, .func (PySem.W.fnOf x x (defArgs st) (defBody st) (defScope st) .none kV dc pm an cd ct), sl⟩) (c : PySem.W.codeIn K cd x = true) (k : PySem.W.keepIn K (.ref f) = true) : FunG K mg x st ps := by
  have F := fun_mk (st := st) l c k
  exact ⟨f, _, F, PySem.W.mg_of X G a, F.binds hb⟩
/-- a def of two parameters, the second one with an int as its default, called with both -/
def FunD2 (K : PySem.W.Frag) (mg : Str → Option Value) (x : Str) (st : Stmt) (ps : List Str) : Prop :=
  ∃ (f : Addr) (fd : FuncData), FunD K x x (defArgs st) (defBody st) (defScope st) [.int 1] [] f fd ∧ mg x = some (.ref f) ∧ PySem.W.keepIn K (.ref f) = true ∧ Binds K fd ps []
theorem FunD2.mk {x p q : Str} {st : Stmt} {f T : Addr} {od an dT : Option Addr} {sl slT : Array (Option Value)} {oc kV dc pm cd ct cT : Value} {nT : Nat} {tk : Tok}
    (hb : ∀ (T : Addr) (kV doc pm : Value) (an : Option Addr) (cdv ct : Value) (us its : List Value), us.length = 2 → its.length = ([V.int 1]).length →
      ∃ k, bindArgs (PySem.W.fnOf x x (defArgs st) (defBody st) (defScope st) (.ref T) kV doc pm an cdv ct) ⟨us, []⟩ = seqItems? (.ref T) >>= k ∧ k (some its.toArray) = pure ([p, q].zip (us ++ its.drop 1)))
    (X : K.In h) (G : h.Ns mainGlobals mg)
    (a : PySem.W.nsIn K mainGlobals x = some (some (.ref f))) (l : K.lookup f = some ⟨oc, od, .func (PySem.W.fnOf x x (defArgs st) (defBody st) (defScope st) (.ref T) kV dc pm an cd ct), sl⟩) (c : PySem.W.codeIn K cd x = true) (k : PySem.W.keepIn K (.ref f) = true)
    (lT : K.lookup T = some ⟨cT, dT, .seq #[.int 1 tk] nT, slT⟩) : FunD2 K mg x st [p, q] := by
  have F : FunD K x x (defArgs st) (defBody st) (defScope st) [.int 1] [] f _ := ⟨⟨oc, od, .ref T, kV, dc, pm, an, cd, ct, sl, rfl, l, c, .inr ⟨by simp, T, _, [.int 1 tk], nT, rfl, lT, rfl, .cons ⟨tk, rfl⟩ .nil⟩, .inl rfl⟩, k⟩
  obtain ⟨ds, hv, hB⟩ := F.binds1 (ps := [p, q]) 2 1 (by simp) rfl hb
  cases hv
  exact ⟨f, _, F, PySem.W.mg_of X G a, k, hB⟩
end
end Cs
set_option maxHeartbeats 4000000
namespace Cs
open PySem PySem.Spec PyProof.Rows L2
/-! ### heaps in which the things that change are hidden -/
def hid (S : List Addr) (H : Hp) : Hp := fun a => if a ∈ S then none else H a
section
variable {S T : List Addr} {H H' : Hp} {a p : Addr} {o : HO}
theorem hid_of (h : a ∉ S) : hid S H a = H a := by unfold hid; rw [if_neg h]
theorem hid_sub : Same (hid S H) H := fun b o h => by
  unfold hid at h
  split at h
  · cases h
  · exact h
theorem hid_same (e : Same H H') : Same (hid S H) (hid S H') := fun b o h => by
  unfold hid at h ⊢
  split at h
  · cases h
  · rename_i q; rw [if_neg q]; exact e _ _ h
theorem hid_less (h : ∀ a, a ∈ S → a ∈ T) : Same (hid T H) (hid S H) := fun b o q => by
  unfold hid at q ⊢
  split at q
  · cases q
  · rename_i z; rw [if_neg (fun y => z (h _ y))]; exact q
theorem hid_upd (h : a ∈ S) : hid S (upd H a o) = hid S H := by
  funext b
  unfold hid
  split
  · rfl
  · rename_i q; exact upd_ne (fun z => q (z ▸ h))
end
/-- all but M is as it was -/
def Bt (M : List Addr) (H H' : Hp) : Prop := ∀ b o, b ∉ M → H b = some o → H' b = some o
theorem Bt.refl {M : List Addr} {H : Hp} : Bt M H H := fun _ _ _ h => h
theorem Bt.trans {M : List Addr} {H H1 H2 : Hp} (a : Bt M H H1) (b : Bt M H1 H2) : Bt M H H2 := fun c o n h => b c o n (a c o n h)
theorem Bt.of {M : List Addr} {H H' : Hp} (e : Same H H') : Bt M H H' := fun b o _ h => e b o h
theorem Bt.same {H H' : Hp} (e : Bt [] H H') : Same H H' := fun b o h => e b o (by simp) h
theorem Bt.mono {M N : List Addr} {H H' : Hp} (e : Bt M H H') (h : ∀ a, a ∈ M → a ∈ N) : Bt N H H' := fun b o n q => e b o (fun z => n (h _ z)) q
/-- news are the addresses that are hidden from now on: they were free -/
theorem Bt.hid {M S N : List Addr} {H H' : Hp} (e : Bt M H H') (h : ∀ a, a ∈ M → a ∈ S) (hN : ∀ a, a ∈ N → a ∈ S ∨ H a = none) : Same (hid S H) (hid (N ++ S) H') := fun b o q => by
  have q' := hid_sub _ _ q
  have n : b ∉ S := fun z => by unfold Cs.hid at q; rw [if_pos z] at q; cases q
  have n2 : b ∉ N ++ S := fun z => by
    rcases List.mem_append.mp z with z | z
    · rcases hN b z with y | y
      · exact n y
      · rw [y] at q'; cases q'
    · exact n z
  rw [hid_of n2]
  exact e b o (fun z => n (h _ z)) q'
/-! ### what a value is, by a Lean value -/
structure Ty (α : Type) where
  r : Hp → V → α → Prop
  mono : ∀ {H H' : Hp} {v : V} {x : α}, Same H H' → r H v x → r H' v x
/-- what a slot holds -/
structure SF where
  p : Hp → V → Prop
  mono : ∀ {H H' : Hp} {v : V}, Same H H' → p H v → p H' v
/-- what stands in a cell -/
structure CF where
  p : Hp → HO → Prop
  mono : ∀ {H H' : Hp} {o : HO}, Same H H' → p H o → p H' o
/-- a thing that changes: the addresses that are its own, and what is true of them (F: what can be read otherwise) -/
structure RS where
  fp : List Addr
  p : Hp → Hp → Prop
  mono : ∀ {F F' H : Hp}, Same F F' → p F H → p F' H
  loc : ∀ {F H H' : Hp}, (∀ a, a ∈ fp → H' a = H a) → p F H → p F H'
def cell (a : Addr) (φ : CF) : RS := ⟨[a], fun F H => ∃ o, H a = some o ∧ φ.p F o, fun e ⟨o, h, g⟩ => ⟨o, h, φ.mono e g⟩, fun e ⟨o, h, g⟩ => ⟨o, by rw [e a (List.mem_cons_self ..)]; exact h, g⟩⟩
def Ty.is {α : Type} (t : Ty α) (x : α) : SF := ⟨fun H v => t.r H v x, fun e h => t.mono e h⟩
/-- what is known of the heap -/
structure FF where
  p : Hp → Prop
  mono : ∀ {H H' : Hp}, Same H H' → p H → p H'
def fps (L : List RS) : List Addr := L.flatMap RS.fp
theorem mem_fps {L : List RS} {r : RS} {a : Addr} (h : r ∈ L) (g : a ∈ r.fp) : a ∈ fps L := List.mem_flatMap.mpr ⟨r, h, g⟩
theorem of_fps {L : List RS} {a : Addr} (h : a ∈ fps L) : ∃ r, r ∈ L ∧ a ∈ r.fp := by
  obtain ⟨r, h1, h2⟩ := List.mem_flatMap.mp h
  exact ⟨r, h1, h2⟩
theorem fps_sub {A B : List RS} (h : A.Sublist B) : (fps A).Sublist (fps B) := by
  induction h with
  | slnil => exact List.Sublist.refl _
  | cons a _ ih => exact ih.trans (List.sublist_append_right _ _)
  | cons_cons a _ ih => exact List.Sublist.append (List.Sublist.refl _) ih
structure Wd where
  H0 : Hp
  M : List Addr
  S : List Addr
  L : List RS
  F : List FF
  G : List (Option SF)
structure Ok (W : Wd) (σ : L2.St) (H : Hp) : Prop where
  nod : (fps W.L).Nodup
  own : ∀ a, a ∈ fps W.L → a ∈ W.S ∧ (a ∈ W.M ∨ W.H0 a = none)
  at_ : ∀ r, r ∈ W.L → r.p (hid W.S H) H
  ms : ∀ a, a ∈ W.M → a ∈ W.S
  al : ∀ a, a ∈ W.S → H a ≠ none
  bt : Bt W.M W.H0 H
  len : σ.length = W.G.length
  facts : ∀ f, f ∈ W.F → f.p (hid W.S H)
  slots : ∀ (i : Nat) (f : SF), W.G[i]? = some (some f) → ∃ v, σ[i]? = some (some v) ∧ f.p (hid W.S H) v
/-- from H to H': the world stands, what is not hidden is kept -/
structure Go1 (W : Wd) (σ : L2.St) (H H' : Hp) : Prop where
  ok : Ok W σ H'
  up : Same (hid W.S H) (hid W.S H')
section
variable {W : Wd} {σ : L2.St} {H H' H1 H2 : Hp}
theorem Go1.refl (h : Ok W σ H) : Go1 W σ H H := ⟨h, Same.refl _⟩
theorem Go1.trans (a : Go1 W σ H H1) (b : Go1 W σ H1 H2) : Go1 W σ H H2 := ⟨b.ok, a.up.trans b.up⟩
theorem eq_of_same (e : Same H H') {a : Addr} (h : H a ≠ none) : H' a = H a := by
  cases q : H a with
  | none => exact absurd q h
  | some o => exact e _ _ q
theorem Ok.same (h : Ok W σ H) (e : Same H H') : Ok W σ H' where
  nod := h.nod
  own := h.own
  at_ := fun r m => r.mono (hid_same e) (r.loc (fun a q => eq_of_same e (h.al a (h.own a (mem_fps m q)).1)) (h.at_ r m))
  ms := h.ms
  al := fun a m => by rw [eq_of_same e (h.al a m)]; exact h.al a m
  bt := h.bt.trans (Bt.of e)
  len := h.len
  facts := fun f m => f.mono (hid_same e) (h.facts f m)
  slots := fun i f g => by
    obtain ⟨v, q, z⟩ := h.slots i f g
    exact ⟨v, q, f.mono (hid_same e) z⟩
theorem Ok.go (h : Ok W σ H) (e : Same H H') : Go1 W σ H H' := ⟨h.same e, hid_same e⟩
theorem Ok.new {p : Addr} {o : HO} (h : Ok W σ H) (n : H p = none) : Go1 W σ H (upd H p o) := h.go (Same.new n)
theorem Ok.off {p : Addr} (h : Ok W σ H) (n : H p = none) : p ∉ W.S := fun z => h.al p z n
def RsAt (C : List RS) (S : List Addr) (H : Hp) : Prop := ∀ r, r ∈ C → r.p (hid S H) H
/-- the things C change to C', at their addresses and at new ones (N) -/
theorem Ok.change {C C' R : List RS} {N : List Addr} (h : Ok W σ H) (eL : ∀ r, r ∈ W.L ↔ r ∈ C ∨ r ∈ R) (nR : ∀ r, r ∈ R → ∀ a, a ∈ r.fp → a ∉ fps C) (nodR : (fps (C' ++ R)).Nodup) (b : Bt (fps C) H H')
    (hN : ∀ a, a ∈ N → H a = none ∧ H' a ≠ none) (hC' : ∀ a, a ∈ fps C' → (a ∈ fps C ∨ a ∈ N)) (hal : ∀ a, a ∈ fps C → H' a ≠ none) (hc : RsAt C' (N ++ W.S) H') : Ok { W with S := N ++ W.S, L := C' ++ R } σ H' ∧ Same (hid W.S H) (hid (N ++ W.S) H') := by
  have hCS : ∀ a, a ∈ fps C → a ∈ W.S ∧ (a ∈ W.M ∨ W.H0 a = none) := fun a m => by
    obtain ⟨r, m1, m2⟩ := of_fps m
    exact h.own a (mem_fps ((eL r).mpr (.inl m1)) m2)
  have up : Same (hid W.S H) (hid (N ++ W.S) H') := b.hid (fun a m => (hCS a m).1) fun a m => .inr (hN a m).1
  have h0 : ∀ a, H a = none → W.H0 a = none := fun a n => by
    cases q : W.H0 a with
    | none => rfl
    | some o =>
      by_cases hm : a ∈ W.M
      · exact absurd n (h.al a (h.ms a hm))
      · rw [h.bt a o hm q] at n; cases n
  refine ⟨⟨nodR, fun a m => ?_, fun r m => ?_, fun a m => List.mem_append_right _ (h.ms a m), fun a m => ?_, fun c o n q => ?_, h.len, fun f m => f.mono up (h.facts f m), fun i f g => ?_⟩, up⟩
  · obtain ⟨r, m1, m2⟩ := of_fps m
    rcases List.mem_append.mp m1 with m1 | m1
    · rcases hC' a (mem_fps m1 m2) with q | q
      · exact ⟨List.mem_append_right _ (hCS a q).1, (hCS a q).2⟩
      · exact ⟨List.mem_append_left _ q, .inr (h0 a (hN a q).1)⟩
    · have := h.own a (mem_fps ((eL r).mpr (.inr m1)) m2)
      exact ⟨List.mem_append_right _ this.1, this.2⟩
  · rcases List.mem_append.mp m with m | m
    · exact hc r m
    · refine r.mono up (r.loc (fun a q => ?_) (h.at_ r ((eL r).mpr (.inr m))))
      have al := h.al a (h.own a (mem_fps ((eL r).mpr (.inr m)) q)).1
      cases e : H a with
      | none => exact absurd e al
      | some o => exact b a o (nR r m a q) e
  · rcases List.mem_append.mp m with m | m
    · exact (hN a m).2
    · by_cases q : a ∈ fps C
      · exact hal a q
      · intro z
        cases e : H a with
        | none => exact h.al a m e
        | some o => rw [b a o q e] at z; cases z
  · have q1 := h.bt c o n q
    by_cases hin : c ∈ fps C
    · rcases (hCS c hin).2 with z | z
      · exact absurd z n
      · have q : W.H0 c = some o := q
        rw [z] at q; cases q
    · exact b c o hin q1
  · obtain ⟨v, q, z⟩ := h.slots i f g
    exact ⟨v, q, f.mono up z⟩
end
theorem nodup_app {A B : List RS} : (fps (A ++ B)).Nodup ↔ (fps A).Nodup ∧ (fps B).Nodup ∧ ∀ a, a ∈ fps A → a ∉ fps B := by
  unfold fps
  rw [List.flatMap_append, List.nodup_append]
  exact ⟨fun ⟨h1, h2, h3⟩ => ⟨h1, h2, fun a m1 m2 => h3 a m1 a m2 rfl⟩, fun ⟨h1, h2, h3⟩ => ⟨h1, h2, fun a m1 b m2 e => h3 a m1 (e ▸ m2)⟩⟩
section
variable {W : Wd} {σ : L2.St} {H H' : Hp}
/-- the first things of the world change -/
theorem Ok.change1 {C C' R : List RS} {N : List Addr} (h : Ok W σ H) (eL : W.L = C ++ R) (b : Bt (fps C) H H') (hN : ∀ a, a ∈ N → H a = none ∧ H' a ≠ none) (nodC : (fps C').Nodup) (hC' : ∀ a, a ∈ fps C' → (a ∈ fps C ∨ a ∈ N)) (hal : ∀ a, a ∈ fps C → H' a ≠ none)
    (hc : RsAt C' (N ++ W.S) H') : Ok { W with S := N ++ W.S, L := C' ++ R } σ H' ∧ Same (hid W.S H) (hid (N ++ W.S) H') := by
  have nd := h.nod
  rw [eL] at nd
  obtain ⟨n1, n2, n3⟩ := nodup_app.mp nd
  refine h.change (fun r => by rw [eL, List.mem_append]) (fun r m a q z => n3 a z (mem_fps m q)) (nodup_app.mpr ⟨nodC, n2, fun a m z => ?_⟩) b hN hC' hal hc
  rcases hC' a m with q | q
  · exact n3 a q z
  · have := h.al a (h.own a (by rw [eL]; obtain ⟨r, m1, m2⟩ := of_fps z; exact mem_fps (List.mem_append_right _ m1) m2)).1
    exact this (hN a q).1
/-- a callee changed the things C, and left what they promise -/
theorem Ok.after {C : List RS} (h : Ok W σ H) (hC : ∀ r, r ∈ C → r ∈ W.L) (b : Bt (fps C) H H') (hal : ∀ a, a ∈ fps C → H' a ≠ none) (hc : RsAt C W.S H') : Go1 W σ H H' := by
  have hCS : ∀ a, a ∈ fps C → a ∈ W.S ∧ (a ∈ W.M ∨ W.H0 a = none) := fun a m => by
    obtain ⟨r, m1, m2⟩ := of_fps m
    exact h.own a (mem_fps (hC r m1) m2)
  have up : Same (hid W.S H) (hid W.S H') := b.hid (N := []) (fun a m => (hCS a m).1) (fun a m => nomatch m)
  have disj : ∀ (L : List RS), (fps L).Nodup → ∀ r r' a, r ∈ L → r' ∈ L → a ∈ r.fp → a ∈ r'.fp → r = r' := by
    intro L
    induction L with
    | nil => intro _ r r' a m; cases m
    | cons x L ih =>
      intro nd r r' a m m' q q'
      have nd' : (fps ([x] ++ L)).Nodup := nd
      obtain ⟨_, n2, n3⟩ := nodup_app.mp nd'
      rcases List.mem_cons.mp m with m | m <;> rcases List.mem_cons.mp m' with m' | m'
      · rw [m, m']
      · exact absurd (mem_fps m' q') (n3 a (mem_fps (List.mem_cons_self ..) (m ▸ q)))
      · exact absurd (mem_fps m q) (n3 a (mem_fps (List.mem_cons_self ..) (m' ▸ q')))
      · exact ih n2 r r' a m m' q q'
  refine ⟨⟨h.nod, h.own, fun r m => ?_, h.ms, fun a m => ?_, fun c o n q => ?_, h.len, fun f m => f.mono up (h.facts f m), fun i f g => ?_⟩, up⟩
  · by_cases hin : r ∈ C
    · exact hc r hin
    · refine r.mono up (r.loc (fun a q => ?_) (h.at_ r m))
      have al := h.al a (h.own a (mem_fps m q)).1
      have off : a ∉ fps C := fun z => by
        obtain ⟨r', m1, m2⟩ := of_fps z
        exact hin (disj _ h.nod r r' a m (hC r' m1) q m2 ▸ m1)
      cases e : H a with
      | none => exact absurd e al
      | some o => exact b a o off e
  · by_cases q : a ∈ fps C
    · exact hal a q
    · intro z
      cases e : H a with
      | none => exact h.al a m e
      | some o => rw [b a o q e] at z; cases z
  · have q1 := h.bt c o n q
    by_cases hin : c ∈ fps C
    · rcases (hCS c hin).2 with z | z
      · exact absurd z n
      · have q : W.H0 c = some o := q
        rw [z] at q; cases q
    · exact b c o hin q1
  · obtain ⟨v, q, z⟩ := h.slots i f g
    exact ⟨v, q, f.mono up z⟩
/-- the things in another order -/
theorem Ok.perm {L' : List RS} (h : Ok W σ H) (p : W.L.Perm L') : Ok { W with L := L' } σ H := by
  have pf : (fps W.L).Perm (fps L') := p.flatMap_right RS.fp
  exact ⟨pf.nodup_iff.mp h.nod, fun a m => h.own a (pf.mem_iff.mpr m), fun r m => h.at_ r (p.mem_iff.mpr m), h.ms, h.al, h.bt, h.len, h.facts, h.slots⟩
/-- a cell is written -/
theorem Ok.write {a : Addr} {φ ψ : CF} {R : List RS} {o : HO} (h : Ok W σ H) (e : W.L = cell a φ :: R) (hp : ψ.p (hid W.S H) o) : Go1 { W with L := cell a ψ :: R } σ H (upd H a o) := by
  have hS : a ∈ W.S := (h.own a (by rw [e]; exact mem_fps (List.mem_cons_self ..) (List.mem_cons_self ..))).1
  have eq : hid W.S (upd H a o) = hid W.S H := hid_upd hS
  have fa : fps [cell a φ] = [a] := rfl
  obtain ⟨o2, _⟩ := h.change1 (C := [cell a φ]) (C' := [cell a ψ]) (R := R) (N := []) (H' := upd H a o) e (fun b u n q => by rw [upd_ne (fun z => n (by rw [fa, z]; exact List.mem_cons_self ..))]; exact q) (fun b m => nomatch m) (by show [a].Nodup; simp) (fun b m => .inl m) (fun b m => by
    obtain rfl : b = a := by simpa [fa] using m
    rw [upd_same]; simp) (fun r m => by
    obtain rfl : r = cell a ψ := by simpa using m
    exact ⟨o, upd_same, by show ψ.p (hid W.S (upd H a o)) o; rw [eq]; exact hp⟩)
  exact ⟨o2, by show Same (hid W.S H) (hid W.S (upd H a o)); rw [eq]; exact Same.refl _⟩
/-- a new cell -/
theorem Ok.cell {p : Addr} {ψ : CF} {o : HO} (h : Ok W σ H) (n : H p = none) (hp : ψ.p (hid W.S H) o) : Ok { W with S := p :: W.S, L := Cs.cell p ψ :: W.L } σ (upd H p o) ∧ Same (hid W.S H) (hid (p :: W.S) (upd H p o)) :=
  have up : Same (hid W.S H) (hid (p :: W.S) (upd H p o)) := Bt.hid (M := []) (N := [p]) (Bt.of (Same.new n)) (fun a m => nomatch m) (fun a m => .inr (by rw [List.mem_singleton.mp m]; exact n))
  h.change1 (C := []) (C' := [Cs.cell p ψ]) (R := W.L) (N := [p]) rfl (Bt.of (Same.new n)) (fun a m => by
    obtain rfl : a = p := by simpa using m
    exact ⟨n, by rw [upd_same]; simp⟩) (by show [p].Nodup; simp) (fun a m => .inr m) (fun a m => nomatch m) (fun r m => by
    obtain rfl : r = Cs.cell p ψ := by simpa using m
    exact ⟨o, upd_same, ψ.mono up hp⟩)
end
end Cs
set_option maxHeartbeats 4000000
namespace Cs
open PySem PySem.Spec PyProof.Rows L2
/-! ### what readings come to -/
def Fits (H : Hp) : List SF → List V → Prop
  | [], [] => True
  | f :: fs, v :: vs => f.p H v ∧ Fits H fs vs
  | _, _ => False
theorem Fits.mono {H H' : Hp} (e : Same H H') : ∀ {fs : List SF} {vs : List V}, Fits H fs vs → Fits H' fs vs
  | [], [], _ => trivial
  | _ :: _, _ :: _, ⟨a, b⟩ => ⟨SF.mono _ e a, Fits.mono e b⟩
  | [], _ :: _, h => h.elim
  | _ :: _, [], h => h.elim
theorem Fits.length {H : Hp} : ∀ {fs : List SF} {vs : List V}, Fits H fs vs → vs.length = fs.length
  | [], [], _ => rfl
  | _ :: _, _ :: _, ⟨_, b⟩ => by simp [Fits.length b]
  | [], _ :: _, h => h.elim
  | _ :: _, [], h => h.elim
theorem Fits.get {H : Hp} : ∀ {fs : List SF} {vs : List V} {i : Nat} {f : SF}, Fits H fs vs → fs[i]? = some f → ∃ v, vs[i]? = some v ∧ f.p H v
  | [], [], _, _, _, q => by simp at q
  | _ :: _, v :: _, 0, f, ⟨a, _⟩, q => by simp at q; subst q; exact ⟨v, rfl, a⟩
  | _ :: _, _ :: _, i + 1, f, ⟨_, b⟩, q => by
    obtain ⟨v, h1, h2⟩ := Fits.get b (i := i) (f := f) (by simpa using q)
    exact ⟨v, by simpa using h1, h2⟩
  | [], _ :: _, _, _, h, _ => h.elim
  | _ :: _, [], _, _, h, _ => h.elim
/-- the values vs are the xs -/
def All2 {α : Type} (r : V → α → Prop) : List V → List α → Prop
  | [], [] => True
  | v :: vs, x :: xs => r v x ∧ All2 r vs xs
  | _, _ => False
section
variable {α β : Type} {r q : V → α → Prop}
theorem All2.mono (e : ∀ v x, r v x → q v x) : ∀ {vs : List V} {xs : List α}, All2 r vs xs → All2 q vs xs
  | [], [], _ => trivial
  | _ :: _, _ :: _, ⟨a, b⟩ => ⟨e _ _ a, All2.mono e b⟩
  | [], _ :: _, h => h.elim
  | _ :: _, [], h => h.elim
theorem All2.length : ∀ {vs : List V} {xs : List α}, All2 r vs xs → vs.length = xs.length
  | [], [], _ => rfl
  | _ :: _, _ :: _, ⟨_, b⟩ => by simp [All2.length b]
  | [], _ :: _, h => h.elim
  | _ :: _, [], h => h.elim
theorem All2.get : ∀ {vs : List V} {xs : List α} {i : Nat} {x : α}, All2 r vs xs → xs[i]? = some x → ∃ v, vs[i]? = some v ∧ r v x
  | [], [], _, _, _, q => by simp at q
  | v :: _, _ :: _, 0, x, ⟨a, _⟩, q => by simp at q; subst q; exact ⟨v, rfl, a⟩
  | _ :: _, _ :: _, i + 1, x, ⟨_, b⟩, q => by
    obtain ⟨v, h1, h2⟩ := All2.get b (i := i) (x := x) (by simpa using q)
    exact ⟨v, by simpa using h1, h2⟩
  | [], _ :: _, _, _, h, _ => h.elim
  | _ :: _, [], _, _, h, _ => h.elim
theorem All2.getV : ∀ {vs : List V} {xs : List α} {i : Nat} {v : V}, All2 r vs xs → vs[i]? = some v → ∃ x, xs[i]? = some x ∧ r v x
  | [], [], _, _, _, q => by simp at q
  | _ :: _, x :: _, 0, v, ⟨a, _⟩, q => by simp at q; subst q; exact ⟨x, rfl, a⟩
  | _ :: _, _ :: _, i + 1, v, ⟨_, b⟩, q => by
    obtain ⟨x, h1, h2⟩ := All2.getV b (i := i) (v := v) (by simpa using q)
    exact ⟨x, by simpa using h1, h2⟩
  | [], _ :: _, _, _, h, _ => h.elim
  | _ :: _, [], _, _, h, _ => h.elim
theorem All2.app : ∀ {vs ws : List V} {xs ys : List α}, All2 r vs xs → All2 r ws ys → All2 r (vs ++ ws) (xs ++ ys)
  | [], _, [], _, _, g => g
  | _ :: _, _, _ :: _, _, ⟨a, b⟩, g => ⟨a, All2.app b g⟩
  | [], _, _ :: _, _, h, _ => h.elim
  | _ :: _, _, [], _, h, _ => h.elim
theorem All2.take : ∀ {vs : List V} {xs : List α} (n : Nat), All2 r vs xs → All2 r (vs.take n) (xs.take n)
  | _, _, 0, _ => trivial
  | [], [], _ + 1, _ => trivial
  | _ :: _, _ :: _, n + 1, ⟨a, b⟩ => ⟨a, All2.take n b⟩
  | [], _ :: _, _ + 1, h => h.elim
  | _ :: _, [], _ + 1, h => h.elim
theorem All2.drop : ∀ {vs : List V} {xs : List α} (n : Nat), All2 r vs xs → All2 r (vs.drop n) (xs.drop n)
  | _, _, 0, h => h
  | [], [], _ + 1, _ => trivial
  | _ :: _, _ :: _, n + 1, ⟨_, b⟩ => All2.drop n b
  | [], _ :: _, _ + 1, h => h.elim
  | _ :: _, [], _ + 1, h => h.elim
theorem All2.set {v : V} {x : α} (h : r v x) : ∀ {vs : List V} {xs : List α} (i : Nat), All2 r vs xs → All2 r (vs.set i v) (xs.set i x)
  | [], [], _, _ => trivial
  | _ :: _, _ :: _, 0, ⟨_, b⟩ => ⟨h, b⟩
  | _ :: _, _ :: _, i + 1, ⟨a, b⟩ => ⟨a, All2.set h i b⟩
  | [], _ :: _, _, h => h.elim
  | _ :: _, [], _, h => h.elim
theorem All2.toMap (f : α → V) (h : ∀ v x, r v x → v = f x) : ∀ {vs : List V} {xs : List α}, All2 r vs xs → vs = xs.map f
  | [], [], _ => rfl
  | _ :: _, _ :: _, ⟨a, b⟩ => by rw [h _ _ a, All2.toMap f h b]; rfl
  | [], _ :: _, h => h.elim
  | _ :: _, [], h => h.elim
end
/-! ### kinds of values -/
def tInt : Ty Int := ⟨fun _ v x => v = .int x, fun _ h => h⟩
def tBl : Ty Bool := ⟨fun _ v x => v = .bl x, fun _ h => h⟩
def tSt : Ty Str := ⟨fun _ v x => v = .str x, fun _ h => h⟩
def tRf : Ty Addr := ⟨fun _ v x => v = .ref x, fun _ h => h⟩
def tNn : Ty Unit := ⟨fun _ v _ => v = .non, fun _ h => h⟩
theorem sqT_mono {K : PySem.W.Frag} {H H' : Hp} {a : Addr} {xs : List V} (e : Same H H') (h : SqT K H a xs) : SqT K H' a xs := by
  rcases h with (h | ⟨o, h⟩) | h
  · exact .inl (.inl (e _ _ h))
  · exact .inl (.inr ⟨o, e _ _ h⟩)
  · exact .inr h
def tFr (K : PySem.W.Frag) : Ty Rat := ⟨fun H v x => ∃ p, v = .ref p ∧ SqT K H p [.int x.num, .int (x.den : Int)], fun e ⟨p, h, g⟩ => ⟨p, h, sqT_mono e g⟩⟩
def tPr (K : PySem.W.Frag) {α β : Type} (t : Ty α) (u : Ty β) : Ty (α × β) := ⟨fun H v x => ∃ p a b, v = .ref p ∧ SqT K H p [a, b] ∧ t.r H a x.1 ∧ u.r H b x.2, fun e ⟨p, a, b, h, g, h1, h2⟩ => ⟨p, a, b, h, sqT_mono e g, t.mono e h1, u.mono e h2⟩⟩
/-- a tuple of such and such -/
def tTp (K : PySem.W.Frag) (α : Type) (fs : α → List SF) : Ty α := ⟨fun H v x => ∃ p vs, v = .ref p ∧ SqT K H p vs ∧ Fits H (fs x) vs, fun e ⟨p, vs, h, g, h1⟩ => ⟨p, vs, h, sqT_mono e g, h1.mono e⟩⟩
def tLs (K : PySem.W.Frag) {α : Type} (t : Ty α) : Ty (List α) := ⟨fun H v xs => ∃ p vs, v = .ref p ∧ H p = some (.lst vs) ∧ All2 (t.r H) vs xs, fun e ⟨p, vs, h, g, h1⟩ => ⟨p, vs, h, e _ _ g, All2.mono (fun _ _ => t.mono e) h1⟩⟩
def tSc (K : PySem.W.Frag) : Ty (List Int) := ⟨fun H v xs => ∃ p, v = .ref p ∧ SqL K H p (xs.map V.int), fun e ⟨p, h, g⟩ => ⟨p, h, e.seq g⟩⟩
def cLs {α : Type} (t : Ty α) (xs : List α) : CF := ⟨fun H o => ∃ vs, o = .lst vs ∧ All2 (t.r H) vs xs, fun e ⟨vs, h, g⟩ => ⟨vs, h, All2.mono (fun _ _ => t.mono e) g⟩⟩
/-! ### the judgements -/
def Ev {α : Type} (W : Wd) (te : TE) (t : Ty α) (x : α) : Prop := ∀ σ H, Ok W σ H → ∀ Q : VK, (∀ v H', Go1 W σ H H' → t.r (hid W.S H') v x → Q v H') → te σ H Q
def Et (W : Wd) (tt : TT) (b : Bool) : Prop := ∀ σ H, Ok W σ H → ∀ Q : Bool → Hp → Prop, (∀ H', Go1 W σ H H' → Q b H') → tt σ H Q
def Ea (W : Wd) (ta : TA) (fs : List SF) : Prop := ∀ σ H, Ok W σ H → ∀ Q : List V → Hp → Prop, (∀ vs H', Go1 W σ H H' → Fits (hid W.S H') fs vs → Q vs H') → ta σ H Q
/-- as Ev, of one of several values -/
def Evx {α : Type} (W : Wd) (te : TE) (t : Ty α) (P : α → Prop) : Prop := ∀ σ H, Ok W σ H → ∀ Q : VK, (∀ v x H', P x → Go1 W σ H H' → t.r (hid W.S H') v x → Q v H') → te σ H Q
theorem Ev.x {α : Type} {W : Wd} {te : TE} {t : Ty α} {x : α} {P : α → Prop} (h : Ev W te t x) (p : P x) : Evx W te t P := fun σ H o Q q => h σ H o Q fun v H' g r => q v x H' p g r
theorem Evx.ev {α : Type} {W : Wd} {te : TE} {t : Ty α} {x : α} (h : Evx W te t (fun y => y = x)) : Ev W te t x := fun σ H o Q q => h σ H o Q fun v y H' p g r => q v H' g (p ▸ r)
/-- a def that leaves all as it was but the things C, which keep what they promise -/
def spN {α β : Type} (C : α → List RS) (A : α → List SF) (w : Ty β) (pre : α → Prop) (post : α → β → Prop) : Sp := fun vs H Q _ => ∃ (S : List Addr) (x : α), (∀ a ∈ S, H a ≠ none) ∧ (fps (C x)).Nodup ∧ (∀ a, a ∈ fps (C x) → a ∈ S) ∧ RsAt (C x) S H ∧
  Fits (hid S H) (A x) vs ∧ pre x ∧ ∀ v y H', post x y → Bt (fps (C x)) H H' → (∀ a, a ∈ fps (C x) → H' a ≠ none) → RsAt (C x) S H' → w.r (hid S H') v y → Q v H'
def spP {α β : Type} (A : α → List SF) (w : Ty β) (pre : α → Prop) (f : α → β) : Sp := spN (fun _ => []) A w pre (fun x y => y = f x)
section
variable {α β γ : Type} {W : Wd} {K : PySem.W.Frag} {ta tb tc : TE} {t : Ty α} {u : Ty β} {x : α} {y : β} {tt uu : TT} {ar : TA} {fs : List SF} {i j : Int} {E : XK}
theorem ev_is {x' : α} (h : Ev W ta t x) (e : x = x') : Ev W ta t x' := e ▸ h
theorem ev_to {u : Ty β} {y : β} (h : Ev W ta t x) (e : ∀ H v, t.r H v x → u.r H v y) : Ev W ta u y := fun σ H o Q q => h σ H o Q fun v H' g r => q v H' g (e _ _ r)
theorem ev_var {n : Nat} (h : W.G[n]? = some (some (t.is x))) : Ev W (tVar n) t x := fun σ H o Q q => by
  obtain ⟨v, h1, h2⟩ := o.slots n _ h
  exact ⟨v, h1, q v H (Go1.refl o) h2⟩
theorem ev_int : Ev W (tC (.int i)) tInt i := fun σ H o Q q => q _ H (Go1.refl o) rfl
theorem ev_str {z : Str} : Ev W (tC (.str z)) tSt z := fun σ H o Q q => q _ H (Go1.refl o) rfl
theorem ev_bl {b : Bool} : Ev W (tC (.bl b)) tBl b := fun σ H o Q q => q _ H (Go1.refl o) rfl
theorem ev_non : Ev W (tC .non) tNn () := fun σ H o Q q => q _ H (Go1.refl o) rfl
/-- a constant of the written part -/
theorem ev_k {a : Addr} (h : ∀ H, t.r H (.ref a) x) : Ev W (tC (.ref a)) t x := fun σ H o Q q => q _ H (Go1.refl o) (h _)
theorem ev_add (ha : Ev W ta tInt i) (hb : Ev W tb tInt j) : Ev W (tOp (rI0 fun i j => .int (i + j)) ta tb) tInt (i + j) := fun σ H o Q q =>
  ha σ H o _ fun v H1 g1 r1 => hb σ H1 g1.ok _ fun v2 H2 g2 r2 => ⟨i, j, r1, r2, q _ H2 (g1.trans g2) rfl⟩
theorem ev_sub (ha : Ev W ta tInt i) (hb : Ev W tb tInt j) : Ev W (tOp (rI0 fun i j => .int (i - j)) ta tb) tInt (i - j) := fun σ H o Q q =>
  ha σ H o _ fun v H1 g1 r1 => hb σ H1 g1.ok _ fun v2 H2 g2 r2 => ⟨i, j, r1, r2, q _ H2 (g1.trans g2) rfl⟩
theorem ev_mul (ha : Ev W ta tInt i) (hb : Ev W tb tInt j) (k : IntMulOk i j) : Ev W (tOp (rI IntMulOk fun i j => .int (i * j)) ta tb) tInt (i * j) := fun σ H o Q q =>
  ha σ H o _ fun v H1 g1 r1 => hb σ H1 g1.ok _ fun v2 H2 g2 r2 => ⟨i, j, r1, r2, k, q _ H2 (g1.trans g2) rfl⟩
theorem ev_fdiv (ha : Ev W ta tInt i) (hb : Ev W tb tInt j) (k : CDivA i j) : Ev W (tOp (rI CDivA fun i j => .int (i.fdiv j)) ta tb) tInt (i.fdiv j) := fun σ H o Q q =>
  ha σ H o _ fun v H1 g1 r1 => hb σ H1 g1.ok _ fun v2 H2 g2 r2 => ⟨i, j, r1, r2, k, q _ H2 (g1.trans g2) rfl⟩
theorem ev_neg (ha : Ev W ta tInt i) : Ev W (tUn (rU fun i => .int (-i)) ta) tInt (-i) := fun σ H o Q q => ha σ H o _ fun v H1 g1 r1 => ⟨i, r1, q _ H1 g1 rfl⟩
/-- comparisons of ints, as values and as tests -/
theorem ev_cmp {g : Int → Int → Bool} (ha : Ev W ta tInt i) (hb : Ev W tb tInt j) : Ev W (tOp (rI0 fun i j => .bl (g i j)) ta tb) tBl (g i j) := fun σ H o Q q =>
  ha σ H o _ fun v H1 g1 r1 => hb σ H1 g1.ok _ fun v2 H2 g2 r2 => ⟨i, j, r1, r2, q _ H2 (g1.trans g2) rfl⟩
theorem et_cmp {g : Int → Int → Bool} (ha : Ev W ta tInt i) (hb : Ev W tb tInt j) : Et W (tTest (tOp (rI0 fun i j => .bl (g i j)) ta tb)) (g i j) := fun σ H o Q q =>
  ha σ H o _ fun v H1 g1 r1 => hb σ H1 g1.ok _ fun v2 H2 g2 r2 => ⟨i, j, r1, r2, _, rfl, q H2 (g1.trans g2)⟩
theorem et_of {b : Bool} (ha : Ev W ta tBl b) : Et W (tTest ta) b := fun σ H o Q q => ha σ H o _ fun v H1 g1 r1 => ⟨b, r1, q H1 g1⟩
theorem et_is {b c : Bool} (h : Et W tt b) (e : b = c) : Et W tt c := e ▸ h
theorem et_not {b : Bool} (h : Et W tt b) : Et W (tNot tt) (!b) := fun σ H o Q q => h σ H o _ fun H1 g1 => q H1 g1
theorem et_and {b c : Bool} (h : Et W tt b) (g : b = true → Et W uu c) : Et W (tAnd tt uu) (b && c) := fun σ H o Q q => h σ H o _ fun H1 g1 => by
  cases b with
  | true =>
    show uu σ H1 Q
    exact g rfl σ H1 g1.ok Q fun H2 g2 => q H2 (g1.trans g2)
  | false => exact q H1 g1
theorem et_or {b c : Bool} (h : Et W tt b) (g : b = false → Et W uu c) : Et W (tOr tt uu) (b || c) := fun σ H o Q q => h σ H o _ fun H1 g1 => by
  cases b with
  | true => exact q H1 g1
  | false =>
    show uu σ H1 Q
    exact g rfl σ H1 g1.ok Q fun H2 g2 => q H2 (g1.trans g2)
theorem ev_if {b : Bool} (h : Et W tt b) (ha : b = true → Ev W ta t x) (hb : b = false → Ev W tb t x) : Ev W (tIf tt ta tb) t x := fun σ H o Q q => h σ H o _ fun H1 g1 => by
  cases b with
  | true =>
    show ta σ H1 Q
    exact ha rfl σ H1 g1.ok Q fun v H2 g2 r => q v H2 (g1.trans g2) r
  | false =>
    show tb σ H1 Q
    exact hb rfl σ H1 g1.ok Q fun v H2 g2 r => q v H2 (g1.trans g2) r
theorem ea_nil : Ea W tNil [] := fun σ H o Q q => q [] H (Go1.refl o) trivial
theorem ea_cons (ha : Ev W ta t x) (hr : Ea W ar fs) : Ea W (tCons ta ar) (t.is x :: fs) := fun σ H o Q q =>
  ha σ H o _ fun v H1 g1 r1 => hr σ H1 g1.ok _ fun vs H2 g2 r2 => q (v :: vs) H2 (g1.trans g2) ⟨t.mono g2.up r1, r2⟩
/-- a written tuple -/
theorem ev_tup {fs' : α → List SF} (h : Ea W ar fs) (e : fs' x = fs) (hl : fs.length ≤ sizeLine := by decide) : Ev W (tTup ar) (tTp K α fs') x := fun σ H o Q q =>
  h σ H o _ fun vs H1 g1 r1 => ⟨by rw [r1.length]; exact hl, fun p np => q _ _ (g1.trans (g1.ok.new np)) ⟨p, vs, rfl, SqT.of (by rw [hid_of (g1.ok.off np)]; exact upd_same), by rw [e]; exact r1.mono (g1.ok.new np).up⟩⟩
theorem ev_pr (ha : Ev W ta t x) (hb : Ev W tb u y) : Ev W (tTup (tCons ta (tCons tb tNil))) (tPr K t u) (x, y) := fun σ H o Q q =>
  ha σ H o _ fun v H1 g1 r1 => hb σ H1 g1.ok _ fun v2 H2 g2 r2 => ⟨by show 2 ≤ sizeLine; decide, fun p np => q _ _ ((g1.trans g2).trans (g2.ok.new np))
    ⟨p, v, v2, rfl, SqT.of (by rw [hid_of (g2.ok.off np)]; exact upd_same), t.mono (g2.up.trans (g2.ok.new np).up) r1, u.mono (g2.ok.new np).up r2⟩⟩
theorem ev_fst (h : Ev W ta (tPr K t u) (x, y)) : Ev W (tOp (rIxT K) ta (tC (.int 0))) t x := fun σ H o Q q =>
  h σ H o _ fun v H1 g1 ⟨p, a, b, e, s, r1, r2⟩ => ⟨p, [a, b], 0, a, e, rfl, sqT_mono hid_sub s, rfl, q a H1 g1 r1⟩
theorem ev_snd (h : Ev W ta (tPr K t u) (x, y)) : Ev W (tOp (rIxT K) ta (tC (.int 1))) u y := fun σ H o Q q =>
  h σ H o _ fun v H1 g1 ⟨p, a, b, e, s, r1, r2⟩ => ⟨p, [a, b], 1, b, e, rfl, sqT_mono hid_sub s, rfl, q b H1 g1 r2⟩
theorem ev_num {r : Rat} (h : Ev W ta (tFr K) r) : Ev W (tOp (rIxT K) ta (tC (.int 0))) tInt r.num := fun σ H o Q q =>
  h σ H o _ fun v H1 g1 ⟨p, e, s⟩ => ⟨p, _, 0, _, e, rfl, sqT_mono hid_sub s, rfl, q _ H1 g1 rfl⟩
theorem ev_den {r : Rat} (h : Ev W ta (tFr K) r) : Ev W (tOp (rIxT K) ta (tC (.int 1))) tInt (r.den : Int) := fun σ H o Q q =>
  h σ H o _ fun v H1 g1 ⟨p, e, s⟩ => ⟨p, _, 1, _, e, rfl, sqT_mono hid_sub s, rfl, q _ H1 g1 rfl⟩
/-- an item of a tuple -/
theorem ev_item {fs' : α → List SF} {n : Nat} {u : Ty β} {y : β} (h : Ev W ta (tTp K α fs') x) (e : (fs' x)[n]? = some (u.is y)) : Ev W (tOp (rIxT K) ta (tC (.int (n : Int)))) u y := fun σ H o Q q =>
  h σ H o _ fun v H1 g1 ⟨p, vs, ev, s, ft⟩ => by
    obtain ⟨z, hz, rz⟩ := ft.get e
    exact ⟨p, vs, n, z, ev, rfl, sqT_mono hid_sub s, atI_nat hz, q z H1 g1 rz⟩
/-- a fraction written as a pair -/
theorem ev_frac {p q : Int} {r : Rat} (ha : Ev W ta tInt p) (hb : Ev W tb tInt q) (hp : r.num = p) (hq : (r.den : Int) = q) : Ev W (tTup (tCons ta (tCons tb tNil))) (tFr K) r := fun σ H o Q k =>
  ha σ H o _ fun v H1 g1 r1 => hb σ H1 g1.ok _ fun v2 H2 g2 r2 => ⟨by show 2 ≤ sizeLine; decide, fun p np => k _ _ ((g1.trans g2).trans (g2.ok.new np)) ⟨p, rfl, SqT.of (by
    rw [hid_of (g2.ok.off np), upd_same, hp, hq]
    cases r1; cases r2; rfl)⟩⟩
/-- a list's item by its place -/
theorem ev_ixL {xs : List α} {n : Int} {t : Ty α} (h : Ev W ta (tLs K t) xs) (hb : Ev W tb tInt n) (e : atI xs n = some x) : Ev W (tOp (rIxL K) ta tb) t x := fun σ H o Q q =>
  h σ H o _ fun v H1 g1 r1 => hb σ H1 g1.ok _ fun v2 H2 g2 r2 => by
    obtain ⟨p, vs, ev, s, al⟩ := (tLs K t).mono g2.up r1
    have : ∃ z, atI vs n = some z ∧ t.r (hid W.S H2) z x := by
      unfold atI at e ⊢
      rw [al.length]
      cases c : ixN xs.length n with
      | none => rw [c] at e; cases e
      | some k =>
        rw [c] at e
        exact al.get e
    obtain ⟨z, hz, rz⟩ := this
    exact ⟨p, vs, n, z, ev, r2, (SqL.of (hid_sub _ _ s)), hz, q z H2 (g1.trans g2) rz⟩
/-- len of a list -/
theorem ev_len {xs : List α} {t : Ty α} (h : Ev W ta (tLs K t) xs) : Ev W (tCB (fun xs H Q => ∃ p ys, xs = [.ref p] ∧ (SqL K H p ys ∨ SqT K H p ys) ∧ Q (.int ys.length) H) (tCons ta tNil)) tInt (xs.length : Int) := fun σ H o Q q =>
  h σ H o _ fun v H1 g1 ⟨p, vs, ev, s, al⟩ => ⟨p, vs, by rw [ev], .inl ((SqL.of (hid_sub _ _ s))), q _ H1 g1 (by rw [al.length]; rfl)⟩
/-- list(xs) -/
theorem ev_list {xs : List α} {t : Ty α} (h : Ev W ta (tLs K t) xs) : Ev W (tCB (fun xs H Q => ∃ p ys, xs = [.ref p] ∧ (SqL K H p ys ∨ SqT K H p ys) ∧ ∀ l, H l = none → Q (.ref l) (upd H l (.lst ys))) (tCons ta tNil)) (tLs K t) xs := fun σ H o Q q =>
  h σ H o _ fun v H1 g1 ⟨p, vs, ev, s, al⟩ => ⟨p, vs, by rw [ev], .inl ((SqL.of (hid_sub _ _ s))), fun l nl => q _ _ (g1.trans (g1.ok.new nl)) ⟨l, vs, rfl, (by rw [hid_of (g1.ok.off nl)]; exact upd_same), All2.mono (fun _ _ => t.mono (g1.ok.new nl).up) al⟩⟩
theorem ev_int1 (h : Ev W ta tInt i) : Ev W (tCB (fun xs H Q => (∃ i, xs = [.int i] ∧ Q (.int i) H) ∨ ∃ k, xs = [.bl k] ∧ Q (.int (if k then 1 else 0)) H) (tCons ta tNil)) tInt i := fun σ H o Q q =>
  h σ H o _ fun v H1 g1 e => .inl ⟨i, by rw [show v = .int i from e], q _ H1 g1 rfl⟩
/-- a call of a def -/
theorem evx_call {C : γ → List RS} {A : γ → List SF} {w : Ty β} {pre : γ → Prop} {post : γ → β → Prop} {z : γ} (h : Ea W ar (A z)) (hp : pre z) (hC : (C z).Sublist W.L := by first | exact List.nil_sublist _ | exact List.Sublist.refl _ | exact List.singleton_sublist.mpr (by simp) | simp) :
    Evx W (tCall (spN C A w pre post) [] E ar) w (post z) := fun σ H o Q q => h σ H o _ fun vs H1 g1 r1 => by
  have sub : ∀ a, a ∈ fps (C z) → a ∈ W.S := fun a m => by
    obtain ⟨r, m1, m2⟩ := of_fps m
    exact (g1.ok.own a (mem_fps (hC.subset m1) m2)).1
  refine ⟨W.S, z, g1.ok.al, ?_, sub, fun r m => g1.ok.at_ r (hC.subset m), by rw [List.append_nil]; exact r1, hp, fun v y H2 py b al c r => ?_⟩
  · exact (fps_sub hC).nodup g1.ok.nod
  · exact q v y H2 py (g1.trans (g1.ok.after (fun r m => hC.subset m) b al c)) r
theorem ev_call {A : γ → List SF} {w : Ty β} {pre : γ → Prop} {f : γ → β} {z : γ} (h : Ea W ar (A z)) (hp : pre z) : Ev W (tCall (spP A w pre f) [] E ar) w (f z) := (evx_call h hp).ev
end
end Cs
set_option maxHeartbeats 4000000
namespace Cs
open PySem PySem.Spec PyProof.Rows L2
/-! ### statements -/
def Go (W : Wd) (ts : TS) (D : Ends) : Prop := ∀ σ H, Ok W σ H → ts D σ H
def Wd.at (W : Wd) (i : Nat) (f : SF) : Wd := { W with G := W.G.set i (some f) }
/-- what holds in W holds in W' -/
def Wk (W W' : Wd) : Prop := ∀ σ H, Ok W σ H → Ok W' σ H
theorem Wk.refl {W : Wd} : Wk W W := fun _ _ h => h
theorem Wk.trans {W W1 W2 : Wd} (a : Wk W W1) (b : Wk W1 W2) : Wk W W2 := fun σ H h => b σ H (a σ H h)
/-- slots and facts are forgotten -/
theorem Wk.of {H0 : Hp} {M S : List Addr} {L : List RS} {F F' : List FF} {G G' : List (Option SF)} (hl : G.length = G'.length) (h : ∀ (i : Nat) (f : SF), G'[i]? = some (some f) → G[i]? = some (some f)) (hF : ∀ f, f ∈ F' → f ∈ F) : Wk ⟨H0, M, S, L, F, G⟩ ⟨H0, M, S, L, F', G'⟩ := fun σ H o =>
  ⟨o.nod, o.own, o.at_, o.ms, o.al, o.bt, o.len.trans hl, fun f m => o.facts f (hF f m), fun i f g => o.slots i f (h i f g)⟩
section
variable {α β γ : Type} {W W' : Wd} {K : PySem.W.Frag} {ta tb tc : TE} {t : Ty α} {u : Ty β} {x : α} {y : β} {tt uu : TT} {ar : TA} {fs : List SF} {ts us : TS} {D : Ends} {σ : L2.St} {H : Hp} {i : Nat}
theorem go_wk (w : Wk W W') (h : Go W' ts D) : Go W ts D := fun σ H o => h σ H (w σ H o)
theorem Ok.put {v : V} {f : SF} (o : Ok W σ H) (h : f.p (hid W.S H) v) : Ok (W.at i f) (σ.set i (some v)) H :=
  ⟨o.nod, o.own, o.at_, o.ms, o.al, o.bt, by show (σ.set i (some v)).length = (W.G.set i (some f)).length; rw [List.length_set, List.length_set]; exact o.len, o.facts, fun j g q => by
    have q : (W.G.set i (some f))[j]? = some (some g) := q
    by_cases e : i = j
    · subst e
      rw [List.getElem?_set] at q
      by_cases l : i < W.G.length
      · rw [if_pos rfl, if_pos l] at q
        obtain rfl : f = g := Option.some.inj (Option.some.inj q)
        exact ⟨v, by rw [List.getElem?_set, if_pos rfl, if_pos (by rw [o.len]; exact l)], h⟩
      · rw [if_pos rfl, if_neg l] at q; cases q
    · rw [List.getElem?_set, if_neg e] at q
      obtain ⟨w, h1, h2⟩ := o.slots j g q
      exact ⟨w, by rw [List.getElem?_set, if_neg e]; exact h1, h2⟩⟩
theorem Ok.know {f : FF} (o : Ok W σ H) (h : f.p (hid W.S H)) : Ok { W with F := f :: W.F } σ H :=
  ⟨o.nod, o.own, o.at_, o.ms, o.al, o.bt, o.len, fun g m => by
    rcases List.mem_cons.mp m with m | m
    · rw [m]; exact h
    · exact o.facts g m, o.slots⟩
theorem go_set (h : Ev W ta t x) (k : Go (W.at i (t.is x)) us D) : Go W (tSeq (tAsg ta (gName i)) us) D := fun σ H o => h σ H o _ fun v H1 g r => k _ _ (g.ok.put r)
theorem go_set1 (h : Ev W ta t x) (k : ∀ σ H, Ok (W.at i (t.is x)) σ H → D.nx σ H) : Go W (tAsg ta (gName i)) D := fun σ H o => h σ H o _ fun v H1 g r => k _ _ (g.ok.put r)
/-- the value is known, some further facts of it too -/
theorem go_seq (h : Go W ts { D with nx := us D }) : Go W (tSeq ts us) D := h
theorem go_next (h : ∀ σ H, Ok W σ H → D.nx σ H) : Go W tNext D := h
theorem go_if {b : Bool} (h : Et W tt b) (h1 : b = true → Go W ts D) (h2 : b = false → Go W us D) : Go W (tIfS tt ts us) D := fun σ H o => h σ H o _ fun H1 g => by
  cases b with
  | true => exact h1 rfl σ H1 g.ok
  | false => exact h2 rfl σ H1 g.ok
/-- if .. : return | raise (and then go on) -/
theorem go_ifr {b : Bool} {vs : TS} (h : Et W tt b) (h1 : b = true → Go W ts { D with nx := vs D }) (h2 : b = false → Go W vs D) : Go W (tSeq (tIfS tt ts tNext) vs) D := go_if h h1 h2
theorem go_drop (h : Ev W ta t x) (k : Go W us D) : Go W (tSeq (tDrop ta) us) D := fun σ H o => h σ H o _ fun v H1 g r => k _ _ g.ok
/-- what a promise wants at its end -/
def Rt (C : List RS) (S : List Addr) (H : Hp) (w : Ty β) (P : β → Prop) (Q : VK) : Prop := ∀ v y H', P y → Bt (fps C) H H' → (∀ a, a ∈ fps C → H' a ≠ none) → RsAt C S H' → w.r (hid S H') v y → Q v H'
theorem Ok.rsAt {C : List RS} {S : List Addr} (o : Ok W σ H) (hC : ∀ c ∈ C, c ∈ W.L) (hS : ∀ a, a ∈ S → a ∈ W.S) : RsAt C S H := fun r m => r.mono (hid_less hS) (o.at_ r (hC r m))
theorem go_endx {C : List RS} {S : List Addr} {w : Ty β} {P : β → Prop} {Q : VK} (h : Evx W ta w P) (out : Rt C S W.H0 w P Q) (hM : W.M = fps C := by rfl) (hC : ∀ c ∈ C, c ∈ W.L := by first | (intro c z; cases z) | (intro c z; exact z) | simp) (hS : ∀ a, a ∈ S → a ∈ W.S := by first | (intro a z; exact z) | (intro a z; exact List.mem_cons_of_mem _ z) | (intro a z; exact List.mem_cons_of_mem _ (List.mem_cons_of_mem _ z)) | simp) (hD : D.rt = Q := by rfl) : Go W (tRet ta) D := fun σ H o =>
  h σ H o _ fun v y H1 p g r => by
    rw [hD]
    exact out v y H1 p (by rw [← hM]; exact g.ok.bt) (fun a m => g.ok.al a (g.ok.ms a (by rw [hM]; exact m))) (g.ok.rsAt hC hS) (w.mono (hid_less hS) r)
theorem go_end {C : List RS} {S : List Addr} {w : Ty β} {P : β → Prop} {Q : VK} (h : Ev W ta w y) (out : Rt C S W.H0 w P Q) (hp : P y := by rfl) (hM : W.M = fps C := by rfl) (hC : ∀ c ∈ C, c ∈ W.L := by first | (intro c z; cases z) | (intro c z; exact z) | simp) (hS : ∀ a, a ∈ S → a ∈ W.S := by first | (intro a z; exact z) | (intro a z; exact List.mem_cons_of_mem _ z) | (intro a z; exact List.mem_cons_of_mem _ (List.mem_cons_of_mem _ z)) | simp) (hD : D.rt = Q := by rfl) : Go W (tRet ta) D :=
  go_endx (h.x hp) out hM hC hS hD
/-! ### a def keeps its promise -/
theorem ok_N {P : Program} {w : World} {mg : Str → Option Value} {base : Heap} {nm qual : Str} {st : Stmt} {f : Addr} {fd : FuncData} {N ps : List Str} {k : Nat} {C : α → List RS} {A : α → List SF} {wt : Ty β} {pre : α → Prop} {post : α → β → Prop}
    (F : Fun K nm qual st f fd) (S : FnScope N ps (defScope st)) (hl : ∀ x, (A x).length = ps.length)
    (body : ∀ (cdv : Value) (A' : Around) (outer : List Env) (s : Shared) (H0 : Hp) (S : List Addr) (x : α) (Q : VK) (E : XK), Room k (A'.deeper (envOfC qual (defScope st) s.heap.objs.size f cdv)) → pre x → Rt (C x) S H0 wt (post x) Q →
      ∃ t, PSs (cxOf CX0 P w K mg base N qual (defScope st) f cdv A' outer s H0 E).nox (defBody st) t ∧ Go ⟨H0, fps (C x), S, C x, [], (A x).map some ++ List.replicate (N.length - ps.length) none⟩ t { nx := fun _ H' => Q .non H', rt := Q }) :
    FnOk P w K mg base CX0 (k + 1) f fd ps (spN C A wt pre post) := by
  refine F.ok S (fun vs H Q E h => ?_) (fun cdv A' outer s H vs Q E hr h => ?_)
  · obtain ⟨S', x, _, _, _, _, ft, _⟩ := h
    rw [ft.length, hl]
  · obtain ⟨S', x, al, nd, sub, cc, ft, hp, out⟩ := h
    obtain ⟨t, h1, h2⟩ := body cdv A' outer s H S' x Q E hr hp (fun v y H' => out v y H')
    refine ⟨t, h1, h2 _ _ ⟨nd, fun a m => ⟨sub a m, .inl m⟩, cc, sub, al, Bt.refl, ?_, (fun f m => nomatch m), fun i f' q => ?_⟩⟩
    · show (L2.start N vs).length = ((A x).map some ++ List.replicate (N.length - ps.length) none).length
      unfold L2.start
      have e1 := ft.length
      have e2 := hl x
      simp only [List.length_append, List.length_map, List.length_replicate]
      omega
    · have q : ((A x).map some ++ List.replicate (N.length - ps.length) none)[i]? = some (some f') := q
      unfold L2.start
      by_cases l : i < (A x).length
      · rw [List.getElem?_append_left (by simpa using l), List.getElem?_map] at q
        cases c : (A x)[i]? with
        | none => rw [c] at q; cases q
        | some z =>
          rw [c] at q
          obtain rfl : z = f' := Option.some.inj (Option.some.inj q)
          obtain ⟨v, hv, hz⟩ := ft.get c
          exact ⟨v, by rw [List.getElem?_append_left (by simpa [ft.length] using l), List.getElem?_map, hv]; rfl, hz⟩
      · rw [List.getElem?_append_right (by simpa using l)] at q
        have := List.mem_of_getElem? q
        rw [List.mem_replicate] at this
        exact absurd this.2 (by simp)
theorem ok_P {P : Program} {w : World} {mg : Str → Option Value} {base : Heap} {nm qual : Str} {st : Stmt} {f : Addr} {fd : FuncData} {N ps : List Str} {k : Nat} {A : α → List SF} {wt : Ty β} {pre : α → Prop} {g : α → β}
    (F : Fun K nm qual st f fd) (S : FnScope N ps (defScope st)) (hl : ∀ x, (A x).length = ps.length)
    (body : ∀ (cdv : Value) (A' : Around) (outer : List Env) (s : Shared) (H0 : Hp) (S : List Addr) (x : α) (Q : VK) (E : XK), Room k (A'.deeper (envOfC qual (defScope st) s.heap.objs.size f cdv)) → pre x → Rt [] S H0 wt (fun y => y = g x) Q →
      ∃ t, PSs (cxOf CX0 P w K mg base N qual (defScope st) f cdv A' outer s H0 E).nox (defBody st) t ∧ Go ⟨H0, [], S, [], [], (A x).map some ++ List.replicate (N.length - ps.length) none⟩ t { nx := fun _ H' => Q .non H', rt := Q }) :
    FnOk P w K mg base CX0 (k + 1) f fd ps (spP A wt pre g) := ok_N F S hl body
/-! ### loops -/
/-- the list at p -/
def ffL (K : PySem.W.Frag) (t : Ty α) (p : Addr) (vs : List V) (xs : List α) : FF := ⟨fun H => SqL K H p vs ∧ All2 (t.r H) vs xs, fun e h => ⟨e.seq h.1, All2.mono (fun _ _ => t.mono e) h.2⟩⟩
end
end Cs
set_option maxHeartbeats 4000000
namespace Cs
open PySem PySem.Spec PyProof.Rows L2
/-! ### lists that are made: comprehensions, appends -/
theorem wipe_set {σ : L2.St} {i : Nat} {x : Option V} : ∀ {vs : List Nat}, i ∈ vs → wipe (σ.set i x) vs = wipe σ vs
  | v :: vs, h => by
    unfold wipe
    by_cases e : i ∈ vs
    · rw [wipe_set e]
    · have : i = v := by
        rcases List.mem_cons.mp h with h | h
        · exact h
        · exact absurd h e
      subst this
      have key : ∀ (ws : List Nat), i ∉ ws → wipe (σ.set i x) ws = (wipe σ ws).set i x := by
        intro ws
        induction ws with
        | nil => intro _; rfl
        | cons w ws ih =>
          intro hn
          have h1 : i ≠ w := fun z => hn (z ▸ List.mem_cons_self ..)
          have h2 : i ∉ ws := fun z => hn (List.mem_cons_of_mem _ z)
          show (wipe (σ.set i x) ws).set w none = ((wipe σ ws).set w none).set i x
          rw [ih h2, List.set_comm _ _ (fun z => h1 z)]
      rw [key vs e, List.set_set]
theorem wipe_twice (σ : L2.St) (vs : List Nat) : wipe (wipe σ vs) vs = wipe σ vs := by
  have key : ∀ (ws us : List Nat), (∀ w ∈ ws, w ∈ us) → wipe (wipe σ ws) us = wipe σ us := by
    intro ws
    induction ws with
    | nil => intro us _; rfl
    | cons w ws ih =>
      intro us h
      show wipe ((wipe σ ws).set w none) us = _
      rw [wipe_set (h w (List.mem_cons_self ..)), ih us fun z hz => h z (List.mem_cons_of_mem _ hz)]
  exact key vs vs fun _ h => h
def wipeG (G : List (Option SF)) : List Nat → List (Option SF)
  | [] => G
  | v :: vs => (wipeG G vs).set v none
section
variable {α β γ : Type} {W W' : Wd} {K : PySem.W.Frag} {ta tb tc : TE} {t : Ty α} {u : Ty β} {x : α} {y : β} {tt uu : TT} {ar : TA} {fs : List SF} {ts us : TS} {D : Ends} {σ σ' : L2.St} {H H' : Hp} {i : Nat}
theorem Ok.none {j : Nat} (o : Ok W σ H) : Ok { W with G := W.G.set j Option.none } (σ.set j Option.none) H :=
  ⟨o.nod, o.own, o.at_, o.ms, o.al, o.bt, by show (σ.set j Option.none).length = (W.G.set j Option.none).length; rw [List.length_set, List.length_set]; exact o.len, o.facts, fun k g q => by
    have q : (W.G.set j Option.none)[k]? = some (some g) := q
    by_cases e : j = k
    · subst e
      by_cases l : j < W.G.length
      · rw [List.getElem?_set, if_pos rfl, if_pos l] at q; cases q
      · rw [List.getElem?_set, if_pos rfl, if_neg l] at q; cases q
    · rw [List.getElem?_set, if_neg e] at q
      obtain ⟨w, h1, h2⟩ := o.slots k g q
      exact ⟨w, by rw [List.getElem?_set, if_neg e]; exact h1, h2⟩⟩
theorem Ok.wipe : ∀ {vs : List Nat}, Ok W σ H → Ok { W with G := wipeG W.G vs } (L2.wipe σ vs) H
  | [], o => o
  | v :: vs, o => Ok.none (W := { W with G := wipeG W.G vs }) (Ok.wipe (vs := vs) o)
/-- the same world, other slots: what was known of the slots stays -/
theorem Ok.swap {G' : List (Option SF)} (o : Ok W σ H) (o' : Ok { W with G := G' } σ' H') (up : Same (hid W.S H) (hid W.S H')) : Ok W σ H' :=
  ⟨o.nod, o.own, o'.at_, o.ms, o'.al, o'.bt, o.len, o'.facts, fun i f q => by
    obtain ⟨v, h1, h2⟩ := o.slots i f q
    exact ⟨v, h1, f.mono up h2⟩⟩
/-- all that is to be read in H1 -/
def ffS (G : Hp) : FF := ⟨fun H => Same G H, fun e h => h.trans e⟩
/-- a thing is read only from now on -/
theorem Ok.drop {r : RS} {N S : List Addr} {L : List RS} {H0 : Hp} {M : List Addr} {F : List FF} {G : List (Option SF)} (o : Ok ⟨H0, M, N ++ S, r :: L, F, G⟩ σ H) (hS : ∀ a, a ∈ fps L → a ∈ S) (hM : ∀ a ∈ M, a ∈ S) : Ok ⟨H0, M, S, L, F, G⟩ σ H := by
  have up : Same (hid (N ++ S) H) (hid S H) := hid_less fun a h => List.mem_append_right _ h
  have nd : (fps ([r] ++ L)).Nodup := o.nod
  exact ⟨(nodup_app.mp nd).2.1, fun a m => ⟨hS a m, (o.own a (by obtain ⟨q, m1, m2⟩ := of_fps m; exact mem_fps (List.mem_cons_of_mem _ m1) m2)).2⟩, fun q m => q.mono up (o.at_ q (List.mem_cons_of_mem _ m)), hM, fun a m => o.al a (List.mem_append_right _ m), o.bt, o.len, fun f m => f.mono up (o.facts f m), fun j f q => by
      obtain ⟨v, h1, h2⟩ := o.slots j f q
      exact ⟨v, h1, f.mono up h2⟩⟩
theorem ok_sub {W : Wd} (o : Ok W σ H) : ∀ a, a ∈ fps W.L → a ∈ W.S := fun a m => (o.own a m).1
theorem filterMap_snoc (p : α → Bool) (g : α → β) (xs : List α) (x : α) : ((xs ++ [x]).filter p).map g = (xs.filter p).map g ++ (if p x = true then [g x] else []) := by
  rw [List.filter_append, List.map_append]
  congr 1
  cases h : p x <;> simp [h]
theorem take_snoc {xs : List α} {k : Nat} {x : α} (h : xs[k]? = some x) : xs.take (k + 1) = xs.take k ++ [x] := by
  rw [List.take_add_one, h]; rfl
/-- the world of a comprehension's element -/
def Wd.el (W : Wd) (D : Addr) (φ : CF) (F : List FF) (vs : List Nat) : Wd := ⟨W.H0, W.M, D :: W.S, cell D φ :: W.L, F, wipeG W.G vs⟩
theorem et_yes : Et W tYes true := fun σ H o Q q => q H (Go1.refl o)
theorem filter_yes (xs : List α) : xs.filter (fun _ => true) = xs := List.filter_eq_self.mpr fun _ _ => rfl
/-- a display of a list -/
theorem ev_nil : Ev W (tLst tNil) (tLs K t) [] := fun σ H o Q q => ⟨Nat.zero_le _, fun p np => q _ _ (o.new np) ⟨p, [], rfl, (by rw [hid_of (o.off np)]; exact upd_same), trivial⟩⟩
/-- arguments that are all of one kind -/
def El (W : Wd) (ar : TA) (t : Ty α) (xs : List α) : Prop := ∀ σ H, Ok W σ H → ∀ Q : List V → Hp → Prop, (∀ vs H', Go1 W σ H H' → All2 (t.r (hid W.S H')) vs xs → Q vs H') → ar σ H Q
theorem el_nil : El W tNil t [] := fun σ H o Q q => q [] H (Go1.refl o) trivial
theorem el_cons {xs : List α} (ha : Ev W ta t x) (hr : El W ar t xs) : El W (tCons ta ar) t (x :: xs) := fun σ H o Q q =>
  ha σ H o _ fun v H1 g1 r1 => hr σ H1 g1.ok _ fun vs H2 g2 r2 => q (v :: vs) H2 (g1.trans g2) ⟨t.mono g2.up r1, r2⟩
theorem ev_lst {xs : List α} (h : El W ar t xs) (hl : xs.length ≤ sizeLine := by decide) : Ev W (tLst ar) (tLs K t) xs := fun σ H o Q q =>
  h σ H o _ fun vs H1 g1 r1 => ⟨by rw [r1.length]; exact hl, fun p np => q _ _ (g1.trans (g1.ok.new np)) ⟨p, vs, rfl, (by rw [hid_of (g1.ok.off np)]; exact upd_same), All2.mono (fun _ _ => t.mono (g1.ok.new np).up) r1⟩⟩
/-- xs.append(e) -/
theorem go_app {p : Addr} {xs : List α} {R : List RS} (hp : W.G[i]? = some (some (tRf.is p))) (hL : W.L.Perm (cell p (cLs t xs) :: R)) (ha : Ev W ta t x) (hl : xs.length < sizeLine) (k : Go { W with L := cell p (cLs t (xs ++ [x])) :: R } us D) :
    Go W (tSeq (tDrop (tBM K "list" rAppend (tVar i) (tCons ta tNil))) us) D := fun σ H o => by
  obtain ⟨v, h1, h2⟩ := o.slots i _ hp
  obtain rfl : v = .ref p := h2
  have mem : cell p (cLs t xs) ∈ W.L := hL.mem_iff.mpr (List.mem_cons_self ..)
  obtain ⟨ob, hob, vs, rfl, _⟩ := o.at_ _ mem
  refine ⟨.ref p, h1, .inl ⟨rfl, vs, SqL.of hob⟩, ?_⟩
  refine ha σ H o _ fun y H1 g1 ry => ?_
  obtain ⟨ob, hob, ws, rfl, al⟩ := g1.ok.at_ _ mem
  exact ⟨p, ws, y, rfl, rfl, hob, by rw [al.length]; exact hl, k _ _ ((g1.ok.perm hL).write (ψ := cLs t (xs ++ [x])) rfl ⟨_, rfl, al.app (ws := [y]) (ys := [x]) ⟨ry, trivial⟩⟩).ok⟩
theorem go_app1 {p : Addr} {xs : List α} {R : List RS} (hp : W.G[i]? = some (some (tRf.is p))) (hL : W.L.Perm (cell p (cLs t xs) :: R)) (ha : Ev W ta t x) (hl : xs.length < sizeLine) (k : ∀ σ H, Ok { W with L := cell p (cLs t (xs ++ [x])) :: R } σ H → D.nx σ H) :
    Go W (tDrop (tBM K "list" rAppend (tVar i) (tCons ta tNil))) D := go_app (us := fun D σ H => D.nx σ H) hp hL ha hl k
theorem set_self {σ : L2.St} {v : V} (h1 : σ[i]? = some (some v)) : σ.set i (some v) = σ := by
  have l : i < σ.length := (List.getElem?_eq_some_iff.mp h1).1
  apply List.ext_getElem?
  intro j
  rw [List.getElem?_set]
  by_cases e : i = j
  · subst e; rw [if_pos rfl, if_pos l, h1]
  · rw [if_neg e]
/-- the list is done: it is read only -/
theorem go_frz {p : Addr} {xs : List α} {S : List Addr} {L : List RS} {H0 : Hp} {M : List Addr} {F : List FF} {G : List (Option SF)} (hp : G[i]? = some (some (tRf.is p))) (hM : ∀ a ∈ M, a ∈ S) (hn : p ∉ S) (hS : ∀ a, a ∈ fps L → a ∈ S)
    (k : Go ⟨H0, M, S, L, F, G.set i (some ((tLs K t).is xs))⟩ ts D) : Go ⟨H0, M, p :: S, cell p (cLs t xs) :: L, F, G⟩ ts D := fun σ H o => by
  obtain ⟨v, h1, h2⟩ := o.slots i _ hp
  obtain rfl : v = .ref p := h2
  obtain ⟨ob, hob, vs, rfl, al⟩ := o.at_ _ (List.mem_cons_self ..)
  have o2 := Ok.drop (N := [p]) o hS hM
  have up : Same (hid (p :: S) H) (hid S H) := hid_less fun a h => List.mem_cons_of_mem _ h
  have o3 := Ok.put (i := i) (v := .ref p) (f := (tLs K t).is xs) o2 ⟨p, vs, rfl, (by rw [hid_of hn]; exact hob), All2.mono (fun _ _ => t.mono up) al⟩
  rw [set_self h1] at o3
  exact k σ H o3
end
end Cs
set_option maxHeartbeats 4000000
namespace Cs
open PySem PySem.Spec PyProof.Rows L2
/-! ### the deck, its list told -/
def DeckA (K : PySem.W.Frag) (H : Hp) (d l : Addr) (ns : List Int) : Prop := ∃ b c e : Int, H d = some (DeckO l b c e) ∧ SqL K H l (ns.map V.int) ∧ l ≠ d ∧ 0 ≤ b
theorem deckA_of {K : PySem.W.Frag} {H H1 : Hp} {d l : Addr} {ns : List Int} {b c e : Int} (hl : SqL K H l (ns.map V.int)) (ne : l ≠ d) (hb : But d H H1) (h : H1 d = some (DeckO l b c e)) (b0 : 0 ≤ b) : DeckA K H1 d l ns := ⟨b, c, e, h, hb.seq ne hl, ne, b0⟩
def spDrawA (K : PySem.W.Frag) : Sp := fun vs H Q _ => ∃ (d : Addr) (m : Int) (l : Addr) (ns : List Int), vs = [.ref d, .int m] ∧ 0 < m ∧ m.natAbs < 2 ^ 8000 ∧ DeckA K H d l ns ∧ ∀ v H', 0 ≤ v → v < m → But d H H' → DeckA K H' d l ns → Q (.int v) H'
/-! ### equality of data -/
structure Eqt (K : PySem.W.Frag) {α : Type} (t : Ty α) where
  d : α → PyData
  n : Nat
  dp : ∀ {H : Hp} {v : V} {x : α}, t.r H v x → Dp K H v (d x)
  dep : ∀ x, (d x).depth ≤ n
  inj : ∀ x y, PyData.eqv (d x) (d y) = true ↔ x = y
section
variable {K : PySem.W.Frag} {α : Type} {t : Ty α}
theorem Eqt.dec [DecidableEq α] (q : Eqt K t) (x y : α) : PyData.eqv (q.d x) (q.d y) = decide (x = y) := by
  rw [Bool.eq_iff_iff, q.inj, decide_eq_true_iff]
theorem Eqt.shape (q : Eqt K t) (hn : q.n ≤ 64) {x : α} (l : (q.d x).canLay0 = true) : SeqAt.shaped (q.d x) = true := by
  unfold SeqAt.shaped
  rw [l, decide_eq_true (Nat.le_trans (q.dep x) hn)]
  rfl
theorem rat_eq {x y : Rat} (h1 : x.num = y.num) (h2 : (x.den : Int) = y.den) : x = y := by
  have : x.den = y.den := by omega
  exact Rat.ext h1 this
def eqFr : Eqt K (tFr K) := ⟨fun r => .tuple [.int r.num, .int r.den], 1, fun ⟨p, e, h⟩ => by rw [e]; exact .tup h (.cons (.int _) (.cons (.int _) .nil)), fun _ => by simp [PyData.depth, PyData.depthAll], fun x y => by
  simp only [PyData.eqv, PyData.eqvAll, Bool.and_true, Bool.and_eq_true, beq_iff_eq]
  exact ⟨fun ⟨a, b⟩ => rat_eq a b, fun e => by rw [e]; exact ⟨rfl, rfl⟩⟩⟩
theorem dpAll_of {H : Hp} (q : Eqt K t) : ∀ {vs : List V} {xs : List α}, All2 (t.r H) vs xs → DpAll K H vs (xs.map q.d)
  | [], [], _ => .nil
  | _ :: _, _ :: _, ⟨a, b⟩ => .cons (q.dp a) (dpAll_of q b)
  | [], _ :: _, h => h.elim
  | _ :: _, [], h => h.elim
theorem depAll_of (q : Eqt K t) : ∀ xs : List α, PyData.depthAll (xs.map q.d) ≤ q.n
  | [] => by simp [PyData.depthAll]
  | x :: xs => by
    have := depAll_of q xs
    have := q.dep x
    simp only [List.map_cons, PyData.depthAll]
    omega
theorem eqvAll_of (q : Eqt K t) : ∀ xs ys : List α, PyData.eqvAll (xs.map q.d) (ys.map q.d) = true ↔ xs = ys
  | [], [] => by simp [PyData.eqvAll]
  | [], _ :: _ => by simp [PyData.eqvAll]
  | _ :: _, [] => by simp [PyData.eqvAll]
  | x :: xs, y :: ys => by
    simp only [List.map_cons, PyData.eqvAll, Bool.and_eq_true, q.inj, eqvAll_of q xs ys, List.cons.injEq]
def eqLs (q : Eqt K t) : Eqt K (tLs K t) := ⟨fun xs => .list (xs.map q.d), q.n + 1, fun ⟨p, vs, e, h, a⟩ => by rw [e]; exact .lst (SqL.of h) (dpAll_of q a), fun xs => by
  have := depAll_of q xs
  simp only [PyData.depth]
  omega, fun x y => by
  simp only [PyData.eqv]
  exact eqvAll_of q x y⟩
theorem layAll_of (q : Eqt K t) : ∀ xs : List α, (∀ x ∈ xs, (q.d x).canLay0 = true) → PyData.canLayAll0 (xs.map q.d) = true
  | [], _ => by simp [PyData.canLayAll0]
  | x :: xs, h => by
    simp only [List.map_cons, PyData.canLayAll0, Bool.and_eq_true]
    exact ⟨h x (List.mem_cons_self ..), layAll_of q xs fun y m => h y (List.mem_cons_of_mem _ m)⟩
theorem lay_ls (q : Eqt K t) {xs : List α} (h : ∀ x ∈ xs, (q.d x).canLay0 = true) : ((eqLs q).d xs).canLay0 = true := by
  show (PyData.list (xs.map q.d)).canLay0 = true
  simp only [PyData.canLay0]
  exact layAll_of q xs h
theorem lay_fr (x : Rat) : ((eqFr (K := K)).d x).canLay0 = true := by show (PyData.tuple [.int x.num, .int x.den]).canLay0 = true; simp [PyData.canLay0, PyData.canLayAll0]
end
theorem dp_mono {K : PySem.W.Frag} {H H' : Hp} (e : Same H H') {v : V} {d : PyData} (h : Dp K H v d) : Dp K H' v d := by
  have key : (∀ {v : V} {d : PyData}, Dp K H v d → Dp K H' v d) := by
    intro v d h
    exact Dp.rec (motive_1 := fun v d _ => Dp K H' v d) (motive_2 := fun vs ds _ => DpAll K H' vs ds) .non (fun b => .bl b) (fun i => .int i) (fun x => .str x) (fun s _ ih => .lst (e.seq s) ih) (fun s _ ih => .tup (sqT_mono e s) ih) .nil (fun _ _ a b => .cons a b) h
  exact key h
/-! ### more kinds -/
/-- an instance of the class at C with such attributes, read only -/
def FldAt (H : Hp) (fs : List (Str × V)) (flds : List (Str × SF)) : Prop := ∀ n f, (n, f) ∈ flds → ∃ u, fs.lookup n = some u ∧ f.p H u
/-- None or something that is not -/
def tOpt {α : Type} (t : Ty α) : Ty (Option α) := ⟨fun H v x => match x with
  | none => v = .non
  | some y => t.r H v y ∧ v ≠ .non, fun {H H' v x} e h => by
  cases x with
  | none => exact h
  | some y => exact ⟨t.mono e h.1, h.2⟩⟩
def cDeck (K : PySem.W.Frag) (l : Addr) (ns : List Int) : CF := ⟨fun F o => ∃ b c e, o = DeckO l b c e ∧ SqL K F l (ns.map V.int) ∧ 0 ≤ b, fun e ⟨b, c, f, h, g, k⟩ => ⟨b, c, f, h, e.seq g, k⟩⟩
/-! ### tests of several answers -/
def Etx (W : Wd) (tt : TT) (P : Bool → Prop) : Prop := ∀ σ H, Ok W σ H → ∀ Q : Bool → Hp → Prop, (∀ b H', P b → Go1 W σ H H' → Q b H') → tt σ H Q
section
variable {α β γ : Type} {W : Wd} {K : PySem.W.Frag} {ta tb tc : TE} {t : Ty α} {u : Ty β} {x x' : α} {y : β} {tt uu : TT} {ar : TA} {fs : List SF} {i j : Int} {E : XK} {ts us : TS} {D : Ends} {k : Nat} {z z' : Str}
theorem Et.toX {b : Bool} {P : Bool → Prop} (h : Et W tt b) (p : P b) : Etx W tt P := fun σ H o Q q => h σ H o Q fun H' g => q b H' p g
theorem Etx.any {P : Bool → Prop} (h : Etx W tt P) : Etx W tt fun _ => True := fun σ H o Q q => h σ H o Q fun b H' _ g => q b H' trivial g
theorem etx_and {P P' : Bool → Prop} (h : Etx W tt P) (g : Etx W uu P') : Etx W (tAnd tt uu) (fun b => if b = true then P true ∧ P' true else P false ∨ P' false) := fun σ H o Q q => h σ H o _ fun b H1 p g1 => by
  cases b with
  | true =>
    show uu σ H1 Q
    refine g σ H1 g1.ok Q fun c H2 p2 g2 => q c H2 ?_ (g1.trans g2)
    cases c with
    | true => exact ⟨p, p2⟩
    | false => exact .inr p2
  | false => exact q false H1 (.inl p) g1
theorem etx_eqI {P : Int → Prop} (ha : Evx W ta tInt P) (hb : Ev W tb tInt j) : Etx W (tTest (tOp rEq ta tb)) fun b => ∃ i, P i ∧ b = decide (i = j) := fun σ H o Q q =>
  ha σ H o _ fun v i H1 p g1 r1 => hb σ H1 g1.ok _ fun v2 H2 g2 r2 => by
    obtain rfl : v = .int i := r1
    obtain rfl : v2 = .int j := r2
    exact ⟨rfl, _, rfl, q _ H2 ⟨i, p, by simp⟩ (g1.trans g2)⟩
theorem etx_cmp {P : Int → Prop} {g : Int → Int → Bool} (ha : Evx W ta tInt P) (hb : Ev W tb tInt j) : Etx W (tTest (tOp (rI0 fun i j => .bl (g i j)) ta tb)) fun b => ∃ i, P i ∧ b = g i j := fun σ H o Q q =>
  ha σ H o _ fun v i H1 p g1 r1 => hb σ H1 g1.ok _ fun v2 H2 g2 r2 => ⟨i, j, r1, r2, _, rfl, q _ H2 ⟨i, p, rfl⟩ (g1.trans g2)⟩
theorem evx_add {P P' : Int → Prop} (ha : Evx W ta tInt P) (hb : Evx W tb tInt P') : Evx W (tOp (rI0 fun i j => .int (i + j)) ta tb) tInt (fun s => ∃ i j, P i ∧ P' j ∧ s = i + j) := fun σ H o Q q =>
  ha σ H o _ fun v i H1 p g1 r1 => hb σ H1 g1.ok _ fun v2 j H2 p2 g2 r2 => ⟨i, j, r1, r2, q _ _ H2 ⟨i, j, p, p2, rfl⟩ (g1.trans g2) rfl⟩
theorem Evx.imp {P P' : α → Prop} (h : Evx W ta t P) (e : ∀ x, P x → P' x) : Evx W ta t P' := fun σ H o Q q => h σ H o Q fun v x H' p g r => q v x H' (e x p) g r
theorem Etx.imp {P P' : Bool → Prop} (h : Etx W tt P) (e : ∀ x, P x → P' x) : Etx W tt P' := fun σ H o Q q => h σ H o Q fun b H' p g => q b H' (e b p) g
/-! ### comparisons -/
theorem ev_eqI (ha : Ev W ta tInt i) (hb : Ev W tb tInt j) : Ev W (tOp rEq ta tb) tBl (decide (i = j)) := fun σ H o Q q =>
  ha σ H o _ fun v H1 g1 r1 => hb σ H1 g1.ok _ fun v2 H2 g2 r2 => by
    obtain rfl : v = .int i := r1
    obtain rfl : v2 = .int j := r2
    exact ⟨rfl, q _ H2 (g1.trans g2) (by show V.bl _ = V.bl _; simp)⟩
theorem ev_neI (ha : Ev W ta tInt i) (hb : Ev W tb tInt j) : Ev W (tOp rNe ta tb) tBl (!decide (i = j)) := fun σ H o Q q =>
  ha σ H o _ fun v H1 g1 r1 => hb σ H1 g1.ok _ fun v2 H2 g2 r2 => by
    obtain rfl : v = .int i := r1
    obtain rfl : v2 = .int j := r2
    exact ⟨rfl, q _ H2 (g1.trans g2) (by show V.bl _ = V.bl _; simp)⟩
theorem ev_eqS (ha : Ev W ta tSt z) (hb : Ev W tb tSt z') : Ev W (tOp rEq ta tb) tBl (decide (z = z')) := fun σ H o Q q =>
  ha σ H o _ fun v H1 g1 r1 => hb σ H1 g1.ok _ fun v2 H2 g2 r2 => by
    obtain rfl : v = .str z := r1
    obtain rfl : v2 = .str z' := r2
    exact ⟨rfl, q _ H2 (g1.trans g2) (by show V.bl _ = V.bl _; simp)⟩
theorem ev_neS (ha : Ev W ta tSt z) (hb : Ev W tb tSt z') : Ev W (tOp rNe ta tb) tBl (!decide (z = z')) := fun σ H o Q q =>
  ha σ H o _ fun v H1 g1 r1 => hb σ H1 g1.ok _ fun v2 H2 g2 r2 => by
    obtain rfl : v = .str z := r1
    obtain rfl : v2 = .str z' := r2
    exact ⟨rfl, q _ H2 (g1.trans g2) (by show V.bl _ = V.bl _; simp)⟩
theorem ev_eqD [DecidableEq α] (e : Eqt K t) (ha : Ev W ta t x) (hb : Ev W tb t x') (l1 : (e.d x).canLay0 = true) (l2 : (e.d x').canLay0 = true) (hn : e.n ≤ 64 := by decide) : Ev W (tOp (rEqD K) ta tb) tBl (decide (x = x')) := fun σ H o Q q =>
  ha σ H o _ fun v H1 g1 r1 => hb σ H1 g1.ok _ fun v2 H2 g2 r2 => ⟨e.d x, e.d x', dp_mono hid_sub (e.dp (t.mono g2.up r1)), dp_mono hid_sub (e.dp r2), e.shape hn l1, e.shape hn l2, by rw [e.dec]; exact q _ H2 (g1.trans g2) rfl⟩
theorem ev_neD [DecidableEq α] (e : Eqt K t) (ha : Ev W ta t x) (hb : Ev W tb t x') (l1 : (e.d x).canLay0 = true) (l2 : (e.d x').canLay0 = true) (hn : e.n ≤ 64 := by decide) : Ev W (tOp (rNeD K) ta tb) tBl (!decide (x = x')) := fun σ H o Q q =>
  ha σ H o _ fun v H1 g1 r1 => hb σ H1 g1.ok _ fun v2 H2 g2 r2 => ⟨e.d x, e.d x', dp_mono hid_sub (e.dp (t.mono g2.up r1)), dp_mono hid_sub (e.dp r2), e.shape hn l1, e.shape hn l2, by rw [e.dec]; exact q _ H2 (g1.trans g2) rfl⟩
/-- e is None -/
theorem et_isN {x : Option α} (h : Ev W ta (tOpt t) x) : Et W (tTest (tOp (fun x y H Q => y = .non ∧ Q (.bl (decide (x = .non))) H) ta (tC .non))) x.isNone := fun σ H o Q q =>
  h σ H o _ fun v H1 g1 r1 => ⟨rfl, _, rfl, by
    have : decide (v = .non) = x.isNone := by
      cases x with
      | none => rw [show v = .non from r1]; rfl
      | some y => exact decide_eq_false r1.2
    rw [this]
    exact q H1 g1⟩
theorem ev_some (h : Ev W ta (tOpt t) (some x)) : Ev W ta t x := ev_to h fun _ _ r => r.1
/-- a name among names -/
theorem inV_str {H : Hp} {vs : List V} {xs : List Str} (h : All2 (tSt.r H) vs xs) : inV (.str z) vs = decide (z ∈ xs) := by
  rw [All2.toMap V.str (fun v x e => e) h]
  clear h
  induction xs with
  | nil => rfl
  | cons y ys ih =>
    show (eqV (V.str y) (V.str z) || inV (V.str z) (ys.map V.str)) = _
    rw [ih, Bool.eq_iff_iff, Bool.or_eq_true, decide_eq_true_iff, decide_eq_true_iff, List.mem_cons]
    show (y == z) = true ∨ _ ↔ _
    rw [beq_iff_eq]
    exact ⟨fun h => h.imp (fun e => e.symm) id, fun h => h.imp (fun e => e.symm) id⟩
theorem flat_str {H : Hp} {vs : List V} {xs : List Str} (h : All2 (tSt.r H) vs xs) : vs.all flatV = true := by
  rw [All2.toMap V.str (fun v x e => e) h]
  simp [List.all_map, flatV]
theorem ev_inS {xs : List Str} (ha : Ev W ta tSt z) (hb : Ev W tb (tLs K tSt) xs) : Ev W (tOp (rIn K false) ta tb) tBl (decide (z ∈ xs)) := fun σ H o Q q =>
  ha σ H o _ fun v H1 g1 r1 => hb σ H1 g1.ok _ fun v2 H2 g2 ⟨p, vs, e, s, al⟩ => ⟨p, vs, e, .inl ((SqL.of (hid_sub _ _ s))), by rw [show v = .str z from r1]; rfl, flat_str al, q _ H2 (g1.trans g2) (by rw [show v = .str z from r1]; show V.bl (inV (.str z) vs) = _; rw [inV_str al])⟩
theorem ev_niS {xs : List Str} (ha : Ev W ta tSt z) (hb : Ev W tb (tLs K tSt) xs) : Ev W (tOp (rIn K true) ta tb) tBl (!decide (z ∈ xs)) := fun σ H o Q q =>
  ha σ H o _ fun v H1 g1 r1 => hb σ H1 g1.ok _ fun v2 H2 g2 ⟨p, vs, e, s, al⟩ => ⟨p, vs, e, .inl ((SqL.of (hid_sub _ _ s))), by rw [show v = .str z from r1]; rfl, flat_str al, q _ H2 (g1.trans g2) (by rw [show v = .str z from r1]; show V.bl (!inV (.str z) vs) = _; rw [inV_str al])⟩
/-- a list as a test -/
theorem et_tru {xs : List α} (h : Ev W ta (tLs K t) xs) : Et W (fun σ H Q => ta σ H fun x H' => ∃ k, TruV K x H' k ∧ Q k H') (!xs.isEmpty) := fun σ H o Q q =>
  h σ H o _ fun v H1 g1 ⟨p, vs, e, s, al⟩ => ⟨!xs.isEmpty, by
    rw [e]
    refine .inl ⟨vs, (SqL.of (hid_sub _ _ s)), ?_⟩
    cases vs with
    | nil => cases xs with
      | nil => rfl
      | cons _ _ => exact al.elim
    | cons _ _ => cases xs with
      | nil => exact al.elim
      | cons _ _ => rfl, q H1 g1⟩
/-! ### attributes -/
/-! ### lists -/
/-- isinstance(e, list) -/
theorem ev_isL {xs : List α} {tc : TE} (h : Ev W ta (tLs K t) xs) (hc : tc = tC (.ty "list") := by rfl) (kl : PySem.W.kitOne K (.type "list") (.type "list") = some true) : Ev W (tCB (rIsi K) (tCons ta (tCons tc tNil))) tBl true := fun σ H o Q q =>
  h σ H o _ fun v H1 g1 ⟨p, vs, e, s, al⟩ => by
    subst hc
    refine ⟨v, .ty "list", .type "list", .type "list", true, rfl,   .ty _, ?_, kl, q _ H1 g1 rfl⟩
    rw [e]
    exact .base (.lst (hid_sub _ _ s))
end
end Cs
set_option maxHeartbeats 4000000
namespace Cs
open PySem PySem.Spec PyProof.Rows L2
/-! ### what is walked, what it is stored to -/
/-- the walk over xs: f is what it leans on -/
structure Wks {α : Type} (J : It) (f : FF) (t : Ty α) (xs : List α) : Prop where
  ex : ∃ Y, Walk J xs.length (fun H => ∃ S, f.p (hid S H)) Y ∧ ∀ i H v H' S, i < xs.length → f.p (hid S H) → (∀ a ∈ S, H a ≠ none) → Y i H v H' → Same H H' ∧ ∃ x, xs[i]? = some x ∧ t.r (hid S H') v x
def Iv {α : Type} (W : Wd) (wi : TI) (t : Ty α) (xs : List α) : Prop := ∀ σ H, Ok W σ H → ∀ R : It → Hp → Prop, (∀ J H1 f, Go1 W σ H H1 → f.p (hid W.S H1) → Wks J f t xs → R J H1) → wi σ H R
def Wd.puts (W : Wd) : List (Nat × SF) → Wd
  | [] => W
  | p :: ps => Wd.puts (W.at p.1 p.2) ps
def Tgt {α : Type} (g : TG) (t : Ty α) (as : α → List (Nat × SF)) : Prop := ∀ (W : Wd) σ H v x, Ok W σ H → t.r (hid W.S H) v x → ∀ Q : L2.St → Hp → Prop, (∀ σ', Ok (W.puts (as x)) σ' H → (∀ vs : List Nat, (∀ p ∈ as x, p.1 ∈ vs) → wipe σ' vs = wipe σ vs) → Q σ' H) → g v σ H Q
theorem tgt_name {α : Type} {t : Ty α} {i : Nat} : Tgt (gName i) t (fun x => [(i, t.is x)]) := fun W σ H v x o r Q q => q _ (o.put (f := t.is x) r) fun vs h => wipe_set (h (i, t.is x) (List.mem_cons_self ..))
theorem tgt_pair {α β : Type} {K : PySem.W.Frag} {t : Ty α} {u : Ty β} {i j : Nat} : Tgt (gTup K 2 (gCons (gName i) (gCons (gName j) gNil))) (tPr K t u) (fun p => [(i, t.is p.1), (j, u.is p.2)]) := fun W σ H v x o ⟨p, a, b, e, s, r1, r2⟩ Q q =>
  ⟨p, [a, b], e, sqT_mono hid_sub s, rfl, a, [b], rfl, b, [], rfl, rfl, q _ ((o.put (i := i) (f := t.is x.1) r1).put (i := j) (f := u.is x.2) r2) fun vs h => by
    rw [wipe_set (h (j, u.is x.2) (by simp)), wipe_set (h (i, t.is x.1) (List.mem_cons_self ..))]⟩
section
variable {α β γ : Type} {W : Wd} {K : PySem.W.Frag} {ta tb tc : TE} {t : Ty α} {u : Ty β} {x : α} {y : β} {tt uu : TT} {ar : TA} {ts us : TS} {D : Ends} {g : TG} {as : α → List (Nat × SF)} {wi : TI}
theorem iv_list {xs : List α} (h : Ev W ta (tLs K t) xs) : Iv W (iList K ta) t xs := fun σ H o R q => h σ H o _ fun v H1 g1 ⟨p, vs, e, s, al⟩ =>
  ⟨p, e, ⟨vs, (SqL.of (hid_sub _ _ s))⟩, q _ _ (ffL K t p vs xs) g1 ⟨SqL.of s, al⟩ ⟨YAt vs, by
    rw [← al.length]
    exact walk_list.mono (fun H ⟨S, z⟩ => hid_sub.seq z.1) fun i H v H' _ _ h => h, fun i H v H' S hi z _ ⟨e1, e2⟩ => by
    subst e1
    obtain ⟨x, h1, h2⟩ := z.2.getV e2
    exact ⟨Same.refl _, x, h1, h2⟩⟩⟩
def ffT : FF := ⟨fun _ => True, fun _ h => h⟩
theorem iv_range1 {n : Int} (h : Ev W ta tInt n) (h1 : -(2 ^ 62) ≤ n) (h2 : n < 2 ^ 62) : Iv W (iRng1 (tCons ta tNil)) tInt ((List.range n.toNat).map fun (i : Nat) => (i : Int)) := fun σ H o R q => h σ H o _ fun v H1 g1 r =>
  ⟨n, by rw [show v = .int n from r], h1, h2, q _ _ ffT g1 trivial ⟨YFn fun (i : Nat) => .int (0 + (i : Int)), by
    rw [List.length_map, List.length_range]
    exact walk_range.mono (fun _ _ => trivial) fun i H v H' _ _ h => h, fun i H v H' S hi z _ ⟨e1, e2⟩ => by
    subst e1 e2
    rw [List.length_map, List.length_range] at hi
    exact ⟨Same.refl _, (i : Int), by rw [List.getElem?_map, List.getElem?_range hi]; rfl, by show V.int (0 + (i : Int)) = V.int (i : Int); rw [Int.zero_add]⟩⟩⟩
/-! ### for -/
/-- a for over xs: the things and the slots at each turn by a parameter -/
theorem for_core {ι : Type} {xs : List α} {J : It} {f : FF} {σ : L2.St} {H1 : Hp} (wk : Wks J f t xs) (tg : Tgt g t as) (JJ : Nat → ι → Wd) (Pv : Nat → ι → Prop) (hS : ∀ k c, (JJ k c).F = f :: W.F)
    (start : ∃ c, Pv 0 c ∧ Ok (JJ 0 c) σ H1)
    (hs : ∀ k c x, xs[k]? = some x → Pv k c → Go ((JJ k c).puts (as x)) ts { D with nx := fun σ H => ∃ c', Pv (k + 1) c' ∧ Ok (JJ (k + 1) c') σ H, ct := fun σ H => ∃ c', Pv (k + 1) c' ∧ Ok (JJ (k + 1) c') σ H, bk := D.nx })
    (hd : ∀ c, Pv xs.length c → ∀ σ H, Ok (JJ xs.length c) σ H → D.nx σ H) :
    ∃ Wm : Nat → Nat → L2.St → Hp → Prop, (∃ m, Wm 0 m σ H1) ∧ ∀ i m σ H, Wm i m σ H →
      (J.stop i H ∧ D.nx σ H) ∨ (J.go i H ∧ ∃ N : L2.St → Hp → Prop, (∀ σ' H', N σ' H' → ∃ m', m' < m ∧ Wm (i + 1) m' σ' H') ∧ ∀ x H', J.yld i H x H' → g x σ H' fun σ2 H2 => ts { D with nx := N, ct := N, bk := D.nx } σ2 H2) := by
  obtain ⟨Y, wY, hY⟩ := wk.ex
  have ff : ∀ k c σ H, Ok (JJ k c) σ H → f.p (hid (JJ k c).S H) := fun k c σ H o => o.facts f (by rw [hS]; exact List.mem_cons_self ..)
  refine for_it wY (fun k σ H => ∃ c, Pv k c ∧ Ok (JJ k c) σ H) start (fun k σ H _ ⟨c, _, o⟩ => ⟨_, ff k c σ H o⟩) ?_ ?_
  · rintro k v σ H H' hk ⟨c, pc, o⟩ y
    obtain ⟨e, x, hx, rx⟩ := hY k H v H' _ hk (ff k c σ H o) o.al y
    exact tg _ σ H' v x (o.same e) rx _ fun σ' o' _ => hs k c x hx pc σ' H' o'
  · rintro σ H ⟨c, pc, o⟩
    exact hd c pc σ H o
theorem go_for {ι : Type} {xs : List α} (h : Iv W wi t xs) (tg : Tgt g t as) (J : Nat → ι → List RS × List (Option SF)) (Pv : Nat → ι → Prop) (c0 : ι) (p0 : Pv 0 c0) (w0 : Wk W { W with L := (J 0 c0).1, G := (J 0 c0).2 })
    (hs : ∀ k c x (f : FF), xs[k]? = some x → Pv k c → Go (Wd.puts ⟨W.H0, W.M, W.S, (J k c).1, f :: W.F, (J k c).2⟩ (as x)) ts
      { D with nx := fun σ H => ∃ c', Pv (k + 1) c' ∧ Ok ⟨W.H0, W.M, W.S, (J (k + 1) c').1, f :: W.F, (J (k + 1) c').2⟩ σ H, ct := fun σ H => ∃ c', Pv (k + 1) c' ∧ Ok ⟨W.H0, W.M, W.S, (J (k + 1) c').1, f :: W.F, (J (k + 1) c').2⟩ σ H, bk := D.nx })
    (hd : ∀ c, Pv xs.length c → ∀ σ H, Ok { W with L := (J xs.length c).1, G := (J xs.length c).2 } σ H → D.nx σ H) :
    Go W (tFor wi g ts) D := fun σ H o => h σ H o _ fun Ji H1 f g1 fp wk =>
  for_core wk tg (fun k c => ⟨W.H0, W.M, W.S, (J k c).1, f :: W.F, (J k c).2⟩) Pv (fun _ _ => rfl) ⟨c0, p0, Ok.know (w0 _ _ g1.ok) fp⟩ (fun k c x hx pc => hs k c x f hx pc) fun c pc σ' H' o' => hd c pc σ' H'
    ⟨o'.nod, o'.own, o'.at_, o'.ms, o'.al, o'.bt, o'.len, fun q m => o'.facts q (List.mem_cons_of_mem _ m), o'.slots⟩
/-! ### comprehensions -/
/-- what a comprehension makes of xs where test and element have several answers -/
inductive LcR (P : α → Bool → Prop) (R : α → β → Prop) : List α → List β → Prop
  | nil : LcR P R [] []
  | skip {xs ys x} : LcR P R xs ys → P x false → LcR P R (xs ++ [x]) ys
  | take {xs ys x y} : LcR P R xs ys → P x true → R x y → LcR P R (xs ++ [x]) (ys ++ [y])
theorem LcR.len {P : α → Bool → Prop} {R : α → β → Prop} {xs : List α} {ys : List β} (h : LcR P R xs ys) : ys.length ≤ xs.length := by
  induction h with
  | nil => exact Nat.le_refl _
  | skip _ _ ih => rw [List.length_append]; exact Nat.le_trans ih (Nat.le_add_right _ _)
  | take _ _ _ ih => rw [List.length_append, List.length_append]; simpa using ih
theorem LcR.det {p : α → Bool} {f : α → β} {xs : List α} {ys : List β} (h : LcR (fun x b => b = p x) (fun x y => y = f x) xs ys) : ys = (xs.filter p).map f := by
  induction h with
  | nil => rfl
  | skip _ hp ih => rw [filterMap_snoc, ← hp, ih]; simp
  | take _ hp hy ih => rw [filterMap_snoc, ← hp, ih, hy]; simp
theorem LcR.all {P : α → Bool → Prop} {R : α → β → Prop} {p : β → Prop} {xs : List α} {ys : List β} (h : LcR P R xs ys) (f : ∀ x y, x ∈ xs → P x true → R x y → p y) : ∀ y, y ∈ ys → p y := by
  induction h with
  | nil => intro y m; cases m
  | skip _ _ ih => exact ih fun x y m => f x y (List.mem_append_left _ m)
  | take _ hp hr ih =>
    intro y m
    rcases List.mem_append.mp m with m | m
    · exact ih (fun x y m => f x y (List.mem_append_left _ m)) y m
    · rw [List.mem_singleton.mp m]
      exact f _ _ (List.mem_append_right _ (List.mem_singleton.mpr rfl)) hp hr
theorem LcR.full {R : α → β → Prop} {xs : List α} {ys : List β} (h : LcR (fun _ b => b = true) R xs ys) : ys.length = xs.length := by
  induction h with
  | nil => rfl
  | skip _ e _ => cases e
  | take _ _ _ ih => rw [List.length_append, List.length_append, ih]; rfl
theorem evx_lc {xs : List α} {P : α → Bool → Prop} {R : α → β → Prop} {vs : List Nat} (h : Iv W wi t xs) (tg : Tgt g t as) (hi : ∀ x, ∀ p ∈ as x, p.1 ∈ vs) (hl : xs.length < sizeLine)
    (ht : ∀ D φ F x, (∀ f ∈ W.F, f ∈ F) → x ∈ xs → Etx ((W.el D φ F vs).puts (as x)) tt (P x))
    (he : ∀ D φ F x, (∀ f ∈ W.F, f ∈ F) → x ∈ xs → P x true → Evx ((W.el D φ F vs).puts (as x)) tb u (R x)) (hp : ∀ (W : Wd) x, (W.puts (as x)).H0 = W.H0 ∧ (W.puts (as x)).M = W.M ∧ (W.puts (as x)).S = W.S ∧ (W.puts (as x)).L = W.L ∧ (W.puts (as x)).F = W.F := by intros; exact ⟨rfl, rfl, rfl, rfl, rfl⟩) :
    Evx W (tLc wi g tt tb vs) (tLs K u) (LcR P R xs) := fun σ H o Q q => by
  refine h σ H o _ fun J H1 f g1 fp wk => ?_
  intro D nD
  obtain ⟨Y, wY, hY⟩ := wk.ex
  let Wk : List β → Wd := fun ys => ⟨W.H0, W.M, D :: W.S, cell D (cLs u ys) :: W.L, f :: ffS (hid W.S H1) :: W.F, W.G⟩
  have start : Ok (Wk []) σ (upd H1 D (.lst [])) := by
    obtain ⟨o1, up⟩ := g1.ok.cell (ψ := cLs u ([] : List β)) nD ⟨[], rfl, trivial⟩
    exact Ok.know (Ok.know o1 (f := ffS (hid W.S H1)) up) (f := f) (f.mono up fp)
  have ff : ∀ ys H, Ok (Wk ys) σ H → f.p (hid (D :: W.S) H) := fun ys H o => o.facts f (List.mem_cons_self ..)
  refine lc_it wY (fun k H' => ∃ ys, LcR P R (xs.take k) ys ∧ Ok (Wk ys) σ H') ⟨[], .nil, start⟩ (fun k H' _ ⟨ys, _, o'⟩ => ⟨_, ff ys H' o'⟩) ?_ ?_
  · rintro k v H0' H' hk ⟨ys, rel, o'⟩ y
    obtain ⟨e, x, hx, rx⟩ := hY k H0' v H' _ hk (ff ys H0' o') o'.al y
    have o' := o'.same e
    have xm := List.mem_of_getElem? hx
    have sub : ∀ q ∈ W.F, q ∈ f :: ffS (hid W.S H1) :: W.F := fun q m => List.mem_cons_of_mem _ (List.mem_cons_of_mem _ m)
    refine tg _ _ H' v x (Ok.wipe (vs := vs) o') rx _ fun σ' oe ew => ?_
    refine ⟨by rw [ew vs (hi x), wipe_twice], ?_⟩
    have back : ∀ H2, Go1 (((W.el D (cLs u ys) (f :: ffS (hid W.S H1) :: W.F) vs).puts (as x))) σ' H' H2 → Ok (Wk ys) σ H2 := fun H2 g2 => by
      obtain ⟨p1, p2, p3, p4, p5⟩ := hp (W.el D (cLs u ys) (f :: ffS (hid W.S H1) :: W.F) vs) x
      have o2 := g2.ok
      have up := g2.up
      rw [p3] at up
      have o3 : Ok { Wk ys with G := ((W.el D (cLs u ys) (f :: ffS (hid W.S H1) :: W.F) vs).puts (as x)).G } σ' H2 := by
        have : ((W.el D (cLs u ys) (f :: ffS (hid W.S H1) :: W.F) vs).puts (as x)) = { Wk ys with G := ((W.el D (cLs u ys) (f :: ffS (hid W.S H1) :: W.F) vs).puts (as x)).G } := by
          generalize ((W.el D (cLs u ys) (f :: ffS (hid W.S H1) :: W.F) vs).puts (as x)) = Z at p1 p2 p3 p4 p5 ⊢
          cases Z
          cases p1; cases p2; cases p3; cases p4; cases p5
          rfl
        rw [← this]
        exact o2
      exact Ok.swap (W := Wk ys) o' o3 up
    refine ht D _ _ x sub xm _ _ oe _ fun b H2 pb g2 => ?_
    cases b with
    | false =>
      refine iteF ⟨ys, ?_, back H2 g2⟩
      rw [take_snoc hx]
      exact .skip rel pb
    | true =>
      refine iteT ?_
      refine he D _ _ x sub xm pb _ _ g2.ok _ fun w z H3 pz g3 rz => ?_
      have o3 := back H3 (g2.trans g3)
      obtain ⟨ob, hob, us', rfl, hus⟩ := o3.at_ _ (List.mem_cons_self ..)
      refine ⟨us', hob, ?_, ys ++ [z], ?_, ?_⟩
      · rw [hus.length]
        refine Nat.lt_of_le_of_lt (Nat.le_trans rel.len ?_) hl
        rw [List.length_take]
        omega
      · rw [take_snoc hx]
        exact .take rel pb pz
      · rw [(hp (W.el D (cLs u ys) (f :: ffS (hid W.S H1) :: W.F) vs) x).2.2.1] at rz
        exact (o3.write (ψ := cLs u (ys ++ [z])) (o := .lst (us' ++ [w])) rfl ⟨_, rfl, hus.app (ws := [w]) (ys := [z]) ⟨rz, trivial⟩⟩).ok
  · rintro H' ⟨ys, rel, o2⟩
    rw [List.take_length] at rel
    obtain ⟨ob, hob, us', rfl, hus⟩ := o2.at_ _ (List.mem_cons_self ..)
    have up := o2.facts (ffS (hid W.S H1)) (List.mem_cons_of_mem _ (List.mem_cons_self ..))
    have less : Same (hid (D :: W.S) H') (hid W.S H') := hid_less fun a h => List.mem_cons_of_mem _ h
    have o3 := Ok.drop (N := [D]) o2 (ok_sub g1.ok) g1.ok.ms
    have o4 : Ok W σ H' := ⟨o3.nod, o3.own, o3.at_, o3.ms, o3.al, o3.bt, o3.len, fun f m => o3.facts f (List.mem_cons_of_mem _ (List.mem_cons_of_mem _ m)), o3.slots⟩
    refine q _ ys _ rel (g1.trans ⟨o4, up.trans less⟩) ⟨D, us', rfl, ?_, All2.mono (fun _ _ => u.mono less) hus⟩
    rw [hid_of (g1.ok.off nD)]
    exact hob
theorem ev_lcf {xs : List α} {p : α → Bool} {f : α → β} {vs : List Nat} (h : Iv W wi t xs) (tg : Tgt g t as) (hi : ∀ x, ∀ p ∈ as x, p.1 ∈ vs) (hl : xs.length < sizeLine)
    (ht : ∀ D φ F x, (∀ f ∈ W.F, f ∈ F) → x ∈ xs → Et ((W.el D φ F vs).puts (as x)) tt (p x))
    (he : ∀ D φ F x, (∀ f ∈ W.F, f ∈ F) → x ∈ xs → p x = true → Ev ((W.el D φ F vs).puts (as x)) tb u (f x)) (hp : ∀ (W : Wd) x, (W.puts (as x)).H0 = W.H0 ∧ (W.puts (as x)).M = W.M ∧ (W.puts (as x)).S = W.S ∧ (W.puts (as x)).L = W.L ∧ (W.puts (as x)).F = W.F := by intros; exact ⟨rfl, rfl, rfl, rfl, rfl⟩) :
    Ev W (tLc wi g tt tb vs) (tLs K u) ((xs.filter p).map f) := fun σ H o Q q =>
  evx_lc (P := fun x b => b = p x) (R := fun x y => y = f x) h tg hi hl (fun D φ F x hF hx => (ht D φ F x hF hx).toX rfl) (fun D φ F x hF hx e => (he D φ F x hF hx e.symm).x rfl) hp σ H o Q fun v ys H' r g1 rr => q v H' g1 (r.det ▸ rr)
theorem ev_lcm {xs : List α} {f : α → β} {vs : List Nat} (h : Iv W wi t xs) (tg : Tgt g t as) (hi : ∀ x, ∀ p ∈ as x, p.1 ∈ vs) (hl : xs.length < sizeLine)
    (he : ∀ D φ F x, (∀ f ∈ W.F, f ∈ F) → x ∈ xs → Ev ((W.el D φ F vs).puts (as x)) tb u (f x)) (hp : ∀ (W : Wd) x, (W.puts (as x)).H0 = W.H0 ∧ (W.puts (as x)).M = W.M ∧ (W.puts (as x)).S = W.S ∧ (W.puts (as x)).L = W.L ∧ (W.puts (as x)).F = W.F := by intros; exact ⟨rfl, rfl, rfl, rfl, rfl⟩) :
    Ev W (tLc wi g tYes tb vs) (tLs K u) (xs.map f) :=
  ev_is (ev_lcf (p := fun _ => true) h tg hi hl (fun _ _ _ _ _ _ => et_yes) (fun D φ F x hF hx _ => he D φ F x hF hx) hp) (by rw [filter_yes])
end
end Cs
set_option maxHeartbeats 4000000
namespace Cs
open PySem PySem.Spec PyProof.Rows L2
/-! ### draws -/
def cDk (K : PySem.W.Frag) (d l : Addr) (ns : List Int) : CF := ⟨fun F o => ∃ b c e, o = DeckO l b c e ∧ SqL K F l (ns.map V.int) ∧ l ≠ d ∧ 0 ≤ b, fun e ⟨b, c, f, h, g, k⟩ => ⟨b, c, f, h, e.seq g, k⟩⟩
/-- the deck, where the script's own list is new, too -/
def spDeckN (K : PySem.W.Frag) : Sp := fun vs H Q _ => ∃ (a : Addr) (ns : List Int), vs = [.ref a] ∧ SqL K H a (ns.map V.int) ∧ ∀ d l H', Same H H' → H d = none → H l = none → DeckA K H' d l ns → Q (.ref d) H'
section
variable {α β γ : Type} {W : Wd} {K : PySem.W.Frag} {ta tb tc : TE} {t : Ty α} {u : Ty β} {x x' : α} {y : β} {tt uu : TT} {ar : TA} {fs : List SF} {i j : Int} {E : XK} {ts us : TS} {D : Ends} {z z' : Str} {g : TG} {as : α → List (Nat × SF)} {wi : TI}
theorem evx_draw {m : Int} {s : Nat} {d l : Addr} {ns : List Int} (hs : W.G[s]? = some (some (tRf.is d))) (hL : cell d (cDk K d l ns) ∈ W.L) (hm : Ev W ta tInt m) (m0 : 0 < m) (mb : m.natAbs < 2 ^ 8000) :
    Evx W (tCall (spDrawA K) [] E (tCons (tVar s) (tCons ta tNil))) tInt (fun v => 0 ≤ v ∧ v < m) := fun σ H o Q q => by
  obtain ⟨v, h1, rfl⟩ := o.slots s _ hs
  refine ⟨.ref d, h1, ?_⟩
  refine hm σ H o _ fun v H1 g1 r => ?_
  obtain ⟨ob, hob, b, c, e, rfl, hl, ne, b0⟩ := g1.ok.at_ _ hL
  refine ⟨d, m, l, ns, by rw [show v = .int m from r]; rfl, m0, mb, ⟨b, c, e, hob, hid_sub.seq hl, ne, b0⟩, fun w H2 w0 w1 bt ⟨b', c', e', hob', _, _, b0'⟩ => ?_⟩
  have fd : fps [cell d (cDk K d l ns)] = [d] := rfl
  have bt' : Bt (fps [cell d (cDk K d l ns)]) H1 H2 := fun a o n h => bt a o (fun z => n (by rw [fd, z]; exact List.mem_cons_self ..)) h
  have hd : d ∈ W.S := (g1.ok.own d (mem_fps hL (List.mem_cons_self ..))).1
  have up : Same (hid W.S H1) (hid W.S H2) := bt'.hid (N := []) (fun a m => by rw [fd] at m; rw [List.mem_singleton.mp m]; exact hd) (fun a m => nomatch m)
  have g2 := g1.ok.after (C := [cell d (cDk K d l ns)]) (fun r m => by rw [List.mem_singleton.mp m]; exact hL) bt' (fun a m => by rw [fd] at m; rw [List.mem_singleton.mp m, hob']; simp) (fun r m => by
    rw [List.mem_singleton.mp m]
    exact ⟨_, hob', b', c', e', rfl, up.seq hl, ne, b0'⟩)
  exact q _ w H2 ⟨w0, w1⟩ (g1.trans g2) rfl
/-- deck = _law_deck(script) -/
theorem go_deck {ns : List Int} {s n : Nat} (hs : W.G[s]? = some (some ((tSc K).is ns))) (k : ∀ d l, Go ⟨W.H0, W.M, d :: W.S, cell d (cDk K d l ns) :: W.L, W.F, W.G.set n (some (tRf.is d))⟩ us D) : Go W (tSeq (tAsg (tCall (spDeckN K) [] E (tCons (tVar s) tNil)) (gName n)) us) D := fun σ H o => by
  obtain ⟨v, h1, p, rfl, hq⟩ := o.slots s _ hs
  refine ⟨.ref p, h1, p, ns, rfl, ?_, fun d l H' e nd nl ⟨b, c, f, hd, hl, ne, b0⟩ => ?_⟩
  · exact hid_sub.seq hq
  · have o1 := o.same e
    have nl' : l ∉ [d] ++ W.S := fun z => by
      rcases List.mem_cons.mp z with z | z
      · exact ne z
      · exact o.al l z nl
    have e2 : Bt (fps ([] : List RS)) H H' := Bt.of e
    obtain ⟨o2, _⟩ := o.change1 (C := []) (C' := [cell d (cDk K d l ns)]) (R := W.L) (N := [d]) (H' := H') rfl e2 (fun a m => by rw [List.mem_singleton.mp m]; exact ⟨nd, by rw [hd]; simp⟩) (by show [d].Nodup; simp) (fun a m => .inr m) (fun a m => nomatch m) (fun r m => by
      rw [List.mem_singleton.mp m]
      refine ⟨_, hd, b, c, f, rfl, ?_, ne, b0⟩
      rcases hl with (hl | ⟨ob, hl⟩) | hl
      · exact .inl (.inl (by rw [hid_of nl']; exact hl))
      · exact .inl (.inr ⟨ob, by rw [hid_of nl']; exact hl⟩)
      · exact .inr hl)
    exact k d l _ _ (Ok.put (i := n) (f := tRf.is d) o2 rfl)
/-! ### fractions -/
theorem ev_ratio {p q : Int} (ha : Ev W ta tInt p) (hb : Ev W tb tInt q) (q0 : q ≠ 0) (hp : p.natAbs < 2 ^ 2400) (hq : q.natAbs < 2 ^ 2400) : Ev W (tCall spRatio [] E (tCons ta (tCons tb tNil))) (tFr K) (Rat.divInt p q) := fun σ H o Q k =>
  ha σ H o _ fun v H1 g1 r1 => hb σ H1 g1.ok _ fun v2 H2 g2 r2 => ⟨p, q, by rw [show v = .int p from r1, show v2 = .int q from r2]; rfl, q0, hp, hq, fun a H3 e na ha =>
    k _ _ ((g1.trans g2).trans (g2.ok.go e)) ⟨a, rfl, SqT.of (by rw [hid_of (g2.ok.off na)]; exact ha)⟩⟩
theorem evx_ratio {P P' : Int → Prop} (ha : Evx W ta tInt P) (hb : Evx W tb tInt P') (c : ∀ p q, P p → P' q → q ≠ 0 ∧ p.natAbs < 2 ^ 2400 ∧ q.natAbs < 2 ^ 2400) : Evx W (tCall spRatio [] E (tCons ta (tCons tb tNil))) (tFr K) (fun r => ∃ p q, P p ∧ P' q ∧ r = Rat.divInt p q) := fun σ H o Q k =>
  ha σ H o _ fun v p H1 pp g1 r1 => hb σ H1 g1.ok _ fun v2 q H2 pq g2 r2 => ⟨p, q, by rw [show v = .int p from r1, show v2 = .int q from r2]; rfl, (c p q pp pq).1, (c p q pp pq).2.1, (c p q pp pq).2.2, fun a H3 e na ha =>
    k _ _ _ ⟨p, q, pp, pq, rfl⟩ ((g1.trans g2).trans (g2.ok.go e)) ⟨a, rfl, SqT.of (by rw [hid_of (g2.ok.off na)]; exact ha)⟩⟩
theorem ev_frc {p q : Int} (ha : Ev W ta tInt p) (hb : Ev W tb tInt q) (q0 : q ≠ 0) (hq : q.natAbs < 2 ^ 9000) : Ev W (tCall spFrac [] E (tCons ta (tCons tb tNil))) (tFr K) (Rat.divInt p q) := fun σ H o Q k =>
  ha σ H o _ fun v H1 g1 r1 => hb σ H1 g1.ok _ fun v2 H2 g2 r2 => ⟨p, q, by rw [show v = .int p from r1, show v2 = .int q from r2]; rfl, q0, hq, fun a H3 e na ha =>
    k _ _ ((g1.trans g2).trans (g2.ok.go e)) ⟨a, rfl, SqT.of (by rw [hid_of (g2.ok.off na)]; exact ha)⟩⟩
/-! ### lists, again -/
theorem ev_cat {xs ys : List α} (ha : Ev W ta (tLs K t) xs) (hb : Ev W tb (tLs K t) ys) (hl : xs.length + ys.length ≤ sizeLine) : Ev W (tOp rCat ta tb) (tLs K t) (xs ++ ys) := fun σ H o Q q =>
  ha σ H o _ fun v H1 g1 r1 => hb σ H1 g1.ok _ fun v2 H2 g2 ⟨p2, vs2, e2, s2, al2⟩ => by
    obtain ⟨p1, vs1, e1, s1, al1⟩ := (tLs K t).mono g2.up r1
    exact ⟨p1, p2, vs1, vs2, e1, e2, hid_sub _ _ s1, hid_sub _ _ s2, by rw [al1.length, al2.length]; exact hl, fun p np => q _ _ ((g1.trans g2).trans (g2.ok.new np))
      ⟨p, vs1 ++ vs2, rfl, (by rw [hid_of (g2.ok.off np)]; exact upd_same), All2.mono (fun _ _ => t.mono (g2.ok.new np).up) (al1.app al2)⟩⟩
/-- arguments with stars -/
theorem el_star {xs ys : List α} (ha : Ev W ta (tLs K t) xs) (hr : El W ar t ys) : El W (StX.tStar K ta ar) t (xs ++ ys) := fun σ H o Q q =>
  ha σ H o _ fun v H1 g1 ⟨p, vs, e, s, al⟩ => ⟨p, vs, e, .inr ((SqL.of (hid_sub _ _ s))), hr σ H1 g1.ok _ fun ws H2 g2 r2 => q _ _ (g1.trans g2) ((All2.mono (fun _ _ => t.mono g2.up) al).app r2)⟩
theorem El.go {xs ys : List α} (h : El W ar t xs) (e : xs = ys) : El W ar t ys := e ▸ h
end
end Cs
set_option maxHeartbeats 4000000
namespace Cs
open PySem PySem.Spec PyProof.Rows L2
open Sem (wp)
/-! ### list(reversed(xs)) -/
/-- list(reversed(e)), e a list -/
def tListRev (te : TE) : TE := fun σ H Q => te σ H fun v H1 => ∃ (a : Addr) (xs : List V), v = .ref a ∧ H1 a = some (.lst xs) ∧ ∀ q, H1 q = none → Q (.ref q) (upd H1 q (.lst xs.reverse))
end Cs
set_option maxHeartbeats 4000000
namespace Cs
open PySem PySem.Spec PyProof.Rows L2
/-! ### dicts over a walk -/
section
variable {α β γ : Type} {W : Wd} {K : PySem.W.Frag} {ta tb tc tk tv : TE} {t : Ty α} {u : Ty β} {x x' : α} {y : β} {tt uu : TT} {ar : TA} {fs : List SF} {i j : Int} {E : XK} {ts us : TS} {D : Ends} {z z' : Str} {g : TG} {as : α → List (Nat × SF)} {wi : TI}
/-! ### while -/
/-! ### numbers and texts -/
theorem ev_listRev {xs : List α} (h : Ev W ta (tLs K t) xs) : Ev W (tListRev ta) (tLs K t) xs.reverse := fun σ H o Q q => h σ H o _ fun v H1 g1 ⟨p, vs, e, s, al⟩ =>
  ⟨p, vs, e, hid_sub _ _ s, fun l nl => q _ _ (g1.trans (g1.ok.new nl)) ⟨l, vs.reverse, rfl, by rw [hid_of (g1.ok.off nl)]; exact upd_same, by
    have rev : ∀ {r : V → α → Prop} (vs : List V) (xs : List α), All2 r vs xs → All2 r vs.reverse xs.reverse := by
      intro r vs
      induction vs with
      | nil => intro xs h; cases xs with
        | nil => exact trivial
        | cons _ _ => exact h.elim
      | cons v vs ih => intro xs h; cases xs with
        | nil => exact h.elim
        | cons x xs =>
          rw [List.reverse_cons, List.reverse_cons]
          exact (ih xs h.2).app (ws := [v]) (ys := [x]) ⟨h.1, trivial⟩
    exact rev _ _ (All2.mono (fun _ _ => t.mono (g1.ok.new nl).up) al)⟩⟩
end
end Cs
set_option maxHeartbeats 4000000
namespace Cs
open PySem PySem.Spec PyProof.Rows L2
/-! ### slots that are forgotten -/
def Sb : List (Option SF) → List (Option SF) → Prop
  | [], [] => True
  | _ :: G, none :: G' => Sb G G'
  | a :: G, some f :: G' => a = some f ∧ Sb G G'
  | _, _ => False
theorem Sb.len : ∀ {G G' : List (Option SF)}, Sb G G' → G.length = G'.length
  | [], [], _ => rfl
  | _ :: G, none :: G', h => by
    have q : Sb G G' := h
    simp [Sb.len q]
  | _ :: _, some _ :: _, h => by simp [Sb.len h.2]
  | [], _ :: _, h => h.elim
  | _ :: _, [], h => h.elim
theorem Sb.get : ∀ {G G' : List (Option SF)} {i : Nat} {f : SF}, Sb G G' → G'[i]? = some (some f) → G[i]? = some (some f)
  | [], [], _, _, _, q => by simp at q
  | _ :: _, none :: _, 0, _, _, q => by simp at q
  | _ :: G, none :: G', i + 1, f, h, q => by
    have h' : Sb G G' := h
    have q' : G'[i]? = some (some f) := q
    show G[i]? = some (some f)
    exact Sb.get h' q'
  | a :: _, some g :: _, 0, f, h, q => by
    obtain ⟨e, _⟩ := h
    subst e
    simpa using q
  | _ :: G, some _ :: G', i + 1, f, h, q => by
    have q' : G'[i]? = some (some f) := q
    show G[i]? = some (some f)
    exact Sb.get h.2 q'
  | [], _ :: _, _, _, h, _ => h.elim
  | _ :: _, [], _, _, h, _ => h.elim
theorem Ok.sb {H0 : Hp} {M S : List Addr} {L : List RS} {F F' : List FF} {G G' : List (Option SF)} {σ : L2.St} {H : Hp} (o : Ok ⟨H0, M, S, L, F, G⟩ σ H) (h : Sb G G') (hF : ∀ f, f ∈ F' → f ∈ F := by first | (intro f m; exact m) | (intro f m; cases m) | (intro f m; exact List.mem_cons_of_mem _ m)) : Ok ⟨H0, M, S, L, F', G'⟩ σ H :=
  Wk.of (H0 := H0) (M := M) (S := S) (L := L) h.len (fun i f q => h.get q) hF σ H o
theorem go_at {W : Wd} {σ : L2.St} {H : Hp} {ts : TS} {D : Ends} (o : Ok W σ H) (h : Go W ts D) : ts D σ H := h σ H o
/-! ### sums -/
def rsum (rs : List Rat) : Rat := rs.foldl (fun x y => x + y) 0
def rpre (rs : List Rat) (i : Nat) : Rat := rsum (rs.take i)
theorem rpre_zero (rs : List Rat) : rpre rs 0 = 0 := rfl
theorem rpre_succ {rs : List Rat} {i : Nat} {r : Rat} (h : rs[i]? = some r) : rpre rs (i + 1) = rpre rs i + r := by
  unfold rpre rsum
  rw [take_snoc h, List.foldl_append]
  rfl
theorem rpre_all (rs : List Rat) : rpre rs rs.length = rsum rs := by unfold rpre; rw [List.take_length]
theorem foldl_add (rs : List Rat) : ∀ a : Rat, rs.foldl (fun x y => x + y) a = a + rs.foldl (fun x y => x + y) 0 := by
  induction rs with
  | nil => intro a; show a = a + 0; grind
  | cons r rs ih =>
    intro a
    show rs.foldl _ (a + r) = a + rs.foldl _ (0 + r)
    rw [ih (a + r), ih (0 + r)]
    grind
theorem rsum_cons (r : Rat) (rs : List Rat) : rsum (r :: rs) = r + rsum rs := by
  show rs.foldl _ (0 + r) = _
  rw [foldl_add]
  show 0 + r + rsum rs = _
  grind
theorem rsum_perm {a b : List Rat} (h : a.Perm b) : rsum a = rsum b := by
  induction h with
  | nil => rfl
  | cons x _ ih => rw [rsum_cons, rsum_cons, ih]
  | swap x y l => rw [rsum_cons, rsum_cons, rsum_cons, rsum_cons]; grind
  | trans _ _ h1 h2 => exact h1.trans h2
/-! ### bonds -/
structure Bd where
  name : Str
  issuer : Str
  units : Int
  face : Rat
  cross : Option Rat
def sizeB (b : Bd) : Rat := (b.units : Rat) * b.face
/-- what the others that are in default weigh on a bond -/
def load (b : Bd) (others : List Bd) : Rat := rsum ((others.filter fun o => decide (o.issuer = b.issuer)).map sizeB)
def boundB (b : Bd) (others : List Bd) : Bool := match b.cross with
  | none => false
  | some c => decide (0 < cmpR (load b others) c)
def inN (ks : List Str) (bs : List Bd) : List Bd := bs.filter fun b => decide (b.name ∈ ks)
def Closed (bs : List Bd) (ex T : List Str) : Prop := ∀ b ∈ bs, b.name ∉ T → b.name ∉ ex → boundB b (inN T bs) = false
/-- the least closed set -/
structure Least (bs : List Bd) (ow ex ks : List Str) : Prop where
  own : ∀ z, z ∈ ow → z ∈ ks
  cl : Closed bs ex ks
  least : ∀ T, (∀ z, z ∈ ow → z ∈ T) → Closed bs ex T → ∀ z, z ∈ ks → z ∈ T
theorem inN_perm {bs cs : List Bd} (h : bs.Perm cs) (T : List Str) : (inN T bs).Perm (inN T cs) := h.filter _
theorem load_perm {b : Bd} {os us : List Bd} (h : os.Perm us) : load b os = load b us := rsum_perm ((h.filter _).map _)
theorem boundB_perm {b : Bd} {os us : List Bd} (h : os.Perm us) : boundB b os = boundB b us := by
  unfold boundB
  cases b.cross with
  | none => rfl
  | some c => rw [load_perm h]
theorem Closed.perm {bs cs : List Bd} (h : bs.Perm cs) {ex T : List Str} (c : Closed bs ex T) : Closed cs ex T := fun b m h1 h2 => by
  rw [← boundB_perm (inN_perm h T)]
  exact c b (h.mem_iff.mpr m) h1 h2
theorem Least.mem_iff {bs cs : List Bd} {own own' ex ks ks' : List Str} (hp : bs.Perm cs) (ho : ∀ z, z ∈ own ↔ z ∈ own') (l : Least bs own ex ks) (l' : Least cs own' ex ks') (z : Str) : z ∈ ks ↔ z ∈ ks' :=
  ⟨fun m => l.least ks' (fun y q => l'.own y ((ho y).mp q)) (l'.cl.perm hp.symm) z m, fun m => l'.least ks (fun y q => l.own y ((ho y).mpr q)) (l.cl.perm hp) z m⟩
end Cs
set_option maxHeartbeats 4000000
namespace Cs
open PySem PySem.Spec PyProof.Rows L2
/-! ### the calendar -/
def lens : List Int := [31, 28, 31, 30, 31, 30, 31, 31, 30, 31, 30, 31]
def mlen (i : Nat) : Int := lens.getD i 0
def cum (i : Nat) : Int := (lens.take i).sum
theorem cum_mono : ∀ i, i < 13 → ∀ j, j < 13 → i ≤ j → cum i ≤ cum j := by decide
theorem cum_succ : ∀ i, i < 12 → cum (i + 1) = cum i + mlen i := by decide
theorem cum_all : cum 12 = 365 := by decide
theorem cum_bd : ∀ i, i < 13 → 0 ≤ cum i ∧ cum i ≤ 365 := by decide
structure DateR (day y : Int) (i : Nat) (n : Int) : Prop where
  hi : i < 12
  n1 : 1 ≤ n
  n2 : n ≤ mlen i
  e : day = 365 * y + cum i + n - 1
theorem DateR.rest {day y n : Int} {i : Nat} (h : DateR day y i n) : 0 ≤ cum i + n - 1 ∧ cum i + n - 1 < 365 := by
  have h1 := cum_succ i h.hi
  have h2 := cum_mono (i + 1) (by have := h.hi; omega) 12 (by decide) (by have := h.hi; omega)
  have h3 := (cum_bd i (by have := h.hi; omega)).1
  have h4 := h.n1
  have h5 := h.n2
  rw [cum_all] at h2
  omega
theorem DateR.unique {day y y' n n' : Int} {i i' : Nat} (h : DateR day y i n) (g : DateR day y' i' n') : y = y' ∧ i = i' ∧ n = n' := by
  have h1 := h.rest
  have g1 := g.rest
  have h2 := h.e
  have g2 := g.e
  have ey : y = y' := by omega
  subst ey
  have er : cum i + n = cum i' + n' := by omega
  have hi := h.hi
  have gi := g.hi
  have hs := cum_succ i hi
  have gs := cum_succ i' gi
  have hn1 := h.n1
  have hn2 := h.n2
  have gn1 := g.n1
  have gn2 := g.n2
  rcases Nat.lt_trichotomy i i' with z | z | z
  · have := cum_mono (i + 1) (by omega) i' (by omega) z
    omega
  · subst z
    exact ⟨rfl, rfl, by omega⟩
  · have := cum_mono (i' + 1) (by omega) i (by omega) z
    omega
/-! ### the month of a day -/
theorem dateR_ex (day : Int) : ∃ y i n, DateR day y i n := by
  have r0 : 0 ≤ day % 365 := Int.emod_nonneg _ (by decide)
  have r1 : day % 365 < 365 := Int.emod_lt_of_pos _ (by decide)
  have key : ∀ (i : Nat) (c m : Int), i < 12 → cum i = c → mlen i = m → c ≤ day % 365 → day % 365 < c + m → ∃ y i n, DateR day y i n := fun i c m hi hc hm h1 h2 =>
    ⟨day / 365, i, day % 365 - c + 1, hi, by omega, by omega, by rw [hc]; omega⟩
  by_cases h0 : day % 365 < 31
  · exact key 0 0 31 (by decide) (by decide) (by decide) (by omega) (by omega)
  by_cases h1 : day % 365 < 59
  · exact key 1 31 28 (by decide) (by decide) (by decide) (by omega) (by omega)
  by_cases h2 : day % 365 < 90
  · exact key 2 59 31 (by decide) (by decide) (by decide) (by omega) (by omega)
  by_cases h3 : day % 365 < 120
  · exact key 3 90 30 (by decide) (by decide) (by decide) (by omega) (by omega)
  by_cases h4 : day % 365 < 151
  · exact key 4 120 31 (by decide) (by decide) (by decide) (by omega) (by omega)
  by_cases h5 : day % 365 < 181
  · exact key 5 151 30 (by decide) (by decide) (by decide) (by omega) (by omega)
  by_cases h6 : day % 365 < 212
  · exact key 6 181 31 (by decide) (by decide) (by decide) (by omega) (by omega)
  by_cases h7 : day % 365 < 243
  · exact key 7 212 31 (by decide) (by decide) (by decide) (by omega) (by omega)
  by_cases h8 : day % 365 < 273
  · exact key 8 243 30 (by decide) (by decide) (by decide) (by omega) (by omega)
  by_cases h9 : day % 365 < 304
  · exact key 9 273 31 (by decide) (by decide) (by decide) (by omega) (by omega)
  by_cases h10 : day % 365 < 334
  · exact key 10 304 30 (by decide) (by decide) (by decide) (by omega) (by omega)
  · exact key 11 334 31 (by decide) (by decide) (by decide) (by omega) (by omega)
theorem mon_ex (day : Int) : ∃ m : Int, ∃ y i n, DateR day y i n ∧ m = 12 * y + (i : Int) := by
  obtain ⟨y, i, n, h⟩ := dateR_ex day
  exact ⟨_, y, i, n, h, rfl⟩
noncomputable def mon (day : Int) : Int := Classical.choose (mon_ex day)
theorem DateR.mon {day y n : Int} {i : Nat} (h : DateR day y i n) : mon day = 12 * y + (i : Int) := by
  obtain ⟨y', i', n', g, e⟩ := Classical.choose_spec (mon_ex day)
  obtain ⟨rfl, rfl, _⟩ := h.unique g
  exact e
/-! ### the day that a word makes of a day -/
/-! ### months -/
def fsm (M : Int) : Int := 365 * (M / 12) + cum (M % 12).toNat
def ml (M : Int) : Int := mlen (M % 12).toNat
noncomputable def num (s : Int) : Int := s - fsm (mon s) + 1
theorem fsm_of (y : Int) (i : Nat) (hi : i < 12) : fsm (12 * y + (i : Int)) = 365 * y + cum i ∧ ml (12 * y + (i : Int)) = mlen i := by
  have e1 : (12 * y + (i : Int)) / 12 = y := by omega
  have e2 : ((12 * y + (i : Int)) % 12).toNat = i := by omega
  unfold fsm ml
  rw [e1, e2]
  exact ⟨rfl, rfl⟩
theorem DateR.num {s y n : Int} {i : Nat} (h : DateR s y i n) : num s = n := by
  unfold Cs.num
  rw [h.mon, (fsm_of y i h.hi).1]
  have := h.e
  omega
def mn (n m : Int) : Int := if m < n then m else n
noncomputable def lat (s c : Int) : Int := fsm (mon s + c) + mn (num s) (ml (mon s + c)) - 1
/-! ### the days of a schedule -/
structure SchedOk (s e m : Int) (T : Nat) : Prop where
  lo : ∀ t : Nat, t < T → lat s (m * (t : Int)) < e
  hi : e ≤ lat s (m * (T : Int))
theorem SchedOk.unique {s e m : Int} {T T' : Nat} (h : SchedOk s e m T) (g : SchedOk s e m T') : T = T' := by
  rcases Nat.lt_trichotomy T T' with z | z | z
  · have := g.lo T z
    have := h.hi
    omega
  · exact z
  · have := h.lo T' z
    have := g.hi
    omega
/-! ### parts of a year -/
def dvs (c : Str) : Int := if c = "fixed" then 365 else if c = "thirty" then 360 else 12
end Cs
set_option maxHeartbeats 4000000
namespace Cs
open PySem PySem.Spec PyProof.Rows L2
section
variable {X : Cx} {k : Nat} {x : Str} {ps : List Str} {sp : Sp} {p pos : Pos} {e : Expr} {es : List Expr} {t : TA}
/-- a def that may be called with its last argument left out -/
def CalD (P : Program) (w : World) (K : PySem.W.Frag) (mg : Str → Option Value) (base : Heap) (k : Nat) (x : Str) (ps : List Str) (dvs : List V) (sp : Sp) : Prop :=
  ∃ (f : Addr) (fd : FuncData) (ds : List Value), FnOk P w K mg base CX0 k f fd ps sp ∧ mg x = some (.ref f) ∧ PySem.W.keepIn K (.ref f) = true ∧ Binds K fd ps ds ∧ Vals dvs ds
theorem CalD.mono {P : Program} {w : World} {K : PySem.W.Frag} {mg : Str → Option Value} {base : Heap} {j k : Nat} {dvs : List V} (c : CalD P w K mg base j x ps dvs sp) (h : j ≤ k) : CalD P w K mg base k x ps dvs sp := by
  obtain ⟨f, fd, ds, F, g⟩ := c
  exact ⟨f, fd, ds, F.mono h, g⟩
end
/-! ### rules of a block, the written part told -/
section
variable {X : Cx} {K : PySem.W.Frag} {e : Expr} {ta : TE} {f : Str} {pos : Pos}
theorem op_eqDK (hk : X.K = K) (hu : X.A.units + 64 < cLine) : OpR X (compareOp .Eq) (rEqD K) := hk ▸ op_eqD hu
theorem op_neDK (hk : X.K = K) (hu : X.A.units + 64 < cLine) : OpR X (compareOp .NotEq) (rNeD K) := hk ▸ op_neD hu
theorem ix_lstK (h : X.K = K) : IxR X (rIxL K) := h ▸ ix_list
theorem ix_tupK (h : X.K = K) : IxR X (rIxT K) := h ▸ ix_tup
end
/-! ### name = {..: .. for ..}, the name a local -/
end Cs
set_option maxHeartbeats 4000000
namespace Cs
open PySem PySem.Spec PyProof.Rows L2
section
variable {α β γ δ : Type} {W : Wd} {K : PySem.W.Frag} {ta tb tc : TE} {t : Ty α} {u : Ty β} {x x' : α} {y : β} {tt uu : TT} {ar ak : TA} {fs : List SF} {i : Nat} {E : XK} {ts us vs : TS} {D : Ends} {g : TG} {as : α → List (Nat × SF)} {wi : TI}
theorem Ev.xe (h : Ev W ta t x) : Evx W ta t fun y => y = x := h.x rfl
theorem go_setx {P : α → Prop} (h : Evx W ta t P) (k : ∀ x, P x → Go (W.at i (t.is x)) us D) : Go W (tSeq (tAsg ta (gName i)) us) D := fun σ H o => h σ H o _ fun v x H1 p g r => k x p _ _ (g.ok.put r)
theorem go_ifx {P : Bool → Prop} (h : Etx W tt P) (h1 : P true → Go W ts D) (h2 : P false → Go W us D) : Go W (tIfS tt ts us) D := fun σ H o => h σ H o _ fun b H1 p g => by
  cases b with
  | true => exact h1 p σ H1 g.ok
  | false => exact h2 p σ H1 g.ok
theorem go_ifrx {P : Bool → Prop} (h : Etx W tt P) (h1 : P true → Go W ts { D with nx := vs D }) (h2 : P false → Go W vs D) : Go W (tSeq (tIfS tt ts tNext) vs) D := go_ifx h h1 h2
/-- an if whose ends meet -/
theorem go_ifj {ι : Type} {P : Bool → Prop} (Wj : ι → Wd) (Pj : ι → Prop) (h : Etx W tt P) (h1 : P true → ∀ nx : L2.St → Hp → Prop, (∀ c, Pj c → ∀ σ H, Ok (Wj c) σ H → nx σ H) → Go W ts { D with nx := nx }) (h2 : P false → ∃ c, Pj c ∧ Wk W (Wj c)) (hk : ∀ c, Pj c → Go (Wj c) vs D) : Go W (tSeq (tIfS tt ts tNext) vs) D :=
  go_ifrx h (fun p => h1 p (vs D) fun c pc σ H o => hk c pc σ H o) fun p => by
    obtain ⟨c, pc, w⟩ := h2 p
    exact go_wk w (hk c pc)
/-! ### arguments of several answers -/
def Eax (W : Wd) (ta : TA) {α : Type} (F : α → List SF) (P : α → Prop) : Prop := ∀ σ H, Ok W σ H → ∀ Q : List V → Hp → Prop, (∀ vs c H', P c → Go1 W σ H H' → Fits (hid W.S H') (F c) vs → Q vs H') → ta σ H Q
theorem Ea.xe (h : Ea W ar fs) : Eax W ar (fun _ : Unit => fs) (fun _ => True) := fun σ H o Q q => h σ H o Q fun vs H' g f => q vs () H' trivial g f
/-- what the written part has of a def with defaults: it may be called with all or without them -/
def FunDG (K : PySem.W.Frag) (mg : Str → Option Value) (x : Str) (st : Stmt) (ps : List Str) (dvs : List V) : Prop :=
  ∃ (f : Addr) (fd : FuncData) (ds : List Value), FunD K x x (defArgs st) (defBody st) (defScope st) dvs [] f fd ∧ mg x = some (.ref f) ∧ PySem.W.keepIn K (.ref f) = true ∧ Binds K fd ps [] ∧ Binds K fd ps ds ∧ Vals dvs ds
theorem Cal.ofD {P : Program} {w : World} {mg : Str → Option Value} {base : Heap} {x : Str} {st : Stmt} {ps : List Str} {k : Nat} {sp : Sp} {dvs : List V} (F : FunDG K mg x st ps dvs) (h : ∀ {f : Addr} {fd : FuncData}, FunD K x x (defArgs st) (defBody st) (defScope st) dvs [] f fd → FnOk P w K mg base CX0 k f fd ps sp) : Cal P w K mg base k x ps sp ∧ CalD P w K mg base k x ps dvs sp := by
  obtain ⟨f, fd, ds, F, g, kp, b, bd, vd⟩ := F
  exact ⟨⟨f, fd, h F, g, kp, b⟩, ⟨f, fd, ds, h F, g, kp, bd, vd⟩⟩
theorem FunDG.mk {mg : Str → Option Value} {h : Heap} {x : Str} {st : Stmt} {ps : List Str} {dvs : List V} {f T : Addr} {od an dT : Option Addr} {sl slT : Array (Option Value)} {its : Array Value} {oc kV dc pm cd ct cT : Value} {nT : Nat} (n : Nat)
    (hb0 : ∀ (T : Addr) (kV doc pm : Value) (an : Option Addr) (cdv ct : Value) (us its : List Value), us.length = ps.length → its.length = dvs.length →
      ∃ k, bindArgs (PySem.W.fnOf x x (defArgs st) (defBody st) (defScope st) (.ref T) kV doc pm an cdv ct) ⟨us, []⟩ = seqItems? (.ref T) >>= k ∧ k (some its.toArray) = pure (ps.zip (us ++ its.drop dvs.length)))
    (hb1 : ∀ (T : Addr) (kV doc pm : Value) (an : Option Addr) (cdv ct : Value) (us its : List Value), us.length = n → its.length = dvs.length →
      ∃ k, bindArgs (PySem.W.fnOf x x (defArgs st) (defBody st) (defScope st) (.ref T) kV doc pm an cdv ct) ⟨us, []⟩ = seqItems? (.ref T) >>= k ∧ k (some its.toArray) = pure (ps.zip (us ++ its.drop 0)))
    (X : K.In h) (G : h.Ns mainGlobals mg)
    (a : PySem.W.nsIn K mainGlobals x = some (some (.ref f))) (l : K.lookup f = some ⟨oc, od, .func (PySem.W.fnOf x x (defArgs st) (defBody st) (defScope st) (.ref T) kV dc pm an cd ct), sl⟩) (c : PySem.W.codeIn K cd x = true) (k : PySem.W.keepIn K (.ref f) = true)
    (lT : K.lookup T = some ⟨cT, dT, .seq its nT, slT⟩) (hd : dvs ≠ []) (hv : Vals dvs its.toList) (hn : n + dvs.length = ps.length) : FunDG K mg x st ps dvs := by
  have F : FunD K x x (defArgs st) (defBody st) (defScope st) dvs [] f _ := ⟨⟨oc, od, .ref T, kV, dc, pm, an, cd, ct, sl, rfl, l, c, .inr ⟨hd, T, _, its.toList, nT, rfl, lT, rfl, hv⟩, .inl rfl⟩, k⟩
  obtain ⟨d0, v0, B0⟩ := F.binds1 (ps := ps) ps.length dvs.length hd (by omega) hb0
  obtain ⟨d1, v1, B1⟩ := F.binds1 (ps := ps) n 0 hd (by omega) hb1
  rw [List.drop_length] at v0
  cases v0
  exact ⟨f, _, d1, F, PySem.W.mg_of X G a, k, B0, B1, v1⟩
/-! ### new instances -/
/-! ### lists that grow, of several answers -/
theorem go_newN {xs : List α} (h : El W ar t xs) (hl : xs.length ≤ sizeLine := by decide) (k : ∀ p, p ∉ W.S → Go ⟨W.H0, W.M, p :: W.S, cell p (cLs t xs) :: W.L, W.F, W.G.set i (some (tRf.is p))⟩ us D) : Go W (tSeq (tAsg (tLst ar) (gName i)) us) D := fun σ H o =>
  h σ H o _ fun vs H1 g1 r1 => ⟨by rw [r1.length]; exact hl, fun p np => k p (g1.ok.off np) _ _ (Ok.put (i := i) (f := tRf.is p) (g1.ok.cell (ψ := cLs t xs) np ⟨vs, rfl, r1⟩).1 rfl)⟩
/-! ### walks of several answers -/
def Ivx {α : Type} (W : Wd) (wi : TI) (t : Ty α) (X : List α → Prop) : Prop := ∀ σ H, Ok W σ H → ∀ R : It → Hp → Prop, (∀ xs J H1 f, X xs → Go1 W σ H H1 → f.p (hid W.S H1) → Wks J f t xs → R J H1) → wi σ H R
/-! ### lists or tuples -/
/-! ### calls that leave arguments out; comparisons of several answers -/
theorem Fits.append {H : Hp} : ∀ {fs gs : List SF} {us ws : List V}, Fits H fs us → Fits H gs ws → Fits H (fs ++ gs) (us ++ ws)
  | [], _, [], _, _, h => h
  | _ :: _, _, _ :: _, _, ⟨a, b⟩, h => ⟨a, Fits.append b h⟩
  | [], _, _ :: _, _, h, _ => h.elim
  | _ :: _, _, [], _, h, _ => h.elim
end
end Cs
set_option maxHeartbeats 4000000
namespace Cs
open PySem PySem.Spec PyProof.Rows L2
/-! ### several clauses, with and without names -/
/-- the ends of a named clause's suite: its name goes -/
def goneE (D : Ends) (i : Nat) : Ends := ⟨fun σ H => D.nx (σ.set i none) H, D.rt, fun σ H => D.bk (σ.set i none) H, fun σ H => D.ct (σ.set i none) H⟩
/-- a clause: its class, the slot of its name (if it has one), its suite -/
structure Cla where
  c : Value
  i : Option Nat
  ts : Addr → Value → Option Addr → TS
def Cla.go (q : Cla) (D : Ends) (cls : Value) (d : Option Addr) (a : Addr) (σ : L2.St) (H : Hp) : Prop := match q.i with
  | none => q.ts a cls d D σ H
  | some i => q.ts a cls d (goneE D i) (σ.set i (some (.ref a))) H
section
variable {X : Cx} {body : List Stmt} {h0 : ExceptHandler} {hds : List ExceptHandler} {l : List Cla} {pos : Pos} {tb : WX → TS} {Wout : WX}
/-- what stands when an exception has been caught: g is the heap, J the state without it -/
structure Caught (X : Cx) (pins : List (Addr × Obj)) (σ : L2.St) (H : Hp) (sI s1 : Shared) (B : Heap) (a : Addr) (cls : Value) (d : Option Addr) (g : Heap) : Prop where
  J : Inv X pins σ H sI
  nb : ∀ b o, sI.heap.get? b = some o → b ∉ frs X.stack → B.get? b = some o
  up : sI.heap.UpToSlots g
  os : s1.os = sI.os
  ag : AllBare s1.gens
  na : H a = none
  fl : HandSPX.FlyingZ B (X.env :: X.outer) a (Zc cls d) g
theorem Caught.off {pins : List (Addr × Obj)} {σ : L2.St} {H : Hp} {sI s1 : Shared} {B : Heap} {a : Addr} {cls : Value} {d : Option Addr} {g : Heap} (k : Caught X pins σ H sI s1 B a cls d g) : a ∉ frs (X.env :: X.outer) := fun hm => by
  obtain ⟨ob, fs, he, _, hd⟩ := k.fl.there
  obtain ⟨_, ob', he', hn⟩ := k.fl.2.2.1.mem hm
  rw [he] at he'
  cases he'
  exact hn _ hd
variable {pins : List (Addr × Obj)} {σ : L2.St} {H : Hp} {sI s1 : Shared} {B : Heap} {a : Addr} {cls : Value} {d : Option Addr} {g : Heap} {D : Ends}
end
end Cs
set_option maxHeartbeats 4000000
namespace Cs
open PySem PySem.Spec PyProof.Rows L2
section
variable {α β γ δ : Type} {W : Wd} {K : PySem.W.Frag} {ta tb tc td : TE} {t : Ty α} {u : Ty β} {x x' : α} {y : β} {tt uu : TT} {ar ak : TA} {fs : List SF} {i : Nat} {E : XK} {ts us vs : TS} {D : Ends} {g : TG} {as : α → List (Nat × SF)} {wi : TI}
/-! ### values whose evaluation changes the things -/
theorem go_dropx {P : α → Prop} (h : Evx W ta t P) (k : ∀ x, P x → Go W us D) : Go W (tSeq (tDrop ta) us) D := fun σ H o => h σ H o _ fun v x H1 p g r => k x p _ _ g.ok
/-! ### methods -/
theorem start_slots {H : Hp} {fs : List SF} {vs : List V} {N : List Str} {m i : Nat} {f : SF} (hm : vs.length = m) (ft : Fits H fs vs) (q : (fs.map some ++ List.replicate (N.length - m) none)[i]? = some (some f)) : ∃ v, (L2.start N vs)[i]? = some (some v) ∧ f.p H v := by
  unfold L2.start
  by_cases l : i < fs.length
  · rw [List.getElem?_append_left (by simpa using l), List.getElem?_map] at q
    cases c : fs[i]? with
    | none => rw [c] at q; cases q
    | some z =>
      rw [c] at q
      obtain rfl : z = f := Option.some.inj (Option.some.inj q)
      obtain ⟨v, hv, hz⟩ := ft.get c
      exact ⟨v, by rw [List.getElem?_append_left (by simpa [ft.length] using l), List.getElem?_map, hv]; rfl, hz⟩
  · rw [List.getElem?_append_right (by simpa using l)] at q
    have := List.mem_of_getElem? q
    rw [List.mem_replicate] at this
    exact absurd this.2 (by simp)
/-! ### the end of a def that changes things -/
end
end Cs
set_option maxHeartbeats 4000000
namespace Cs
open PySem PySem.Spec PyProof.Rows L2
/-! ### methods by their promise -/
def CalM (P : Program) (w : World) (K : PySem.W.Frag) (mg : Str → Option Value) (base : Heap) (k : Nat) (C : Addr) (m : Str) (ps : List Str) (sp : Sp) : Prop :=
  ∃ (f : Addr) (fd : FuncData), Meth K C m f ∧ FnOk P w K mg base CX0 k f fd ps sp ∧ Binds K fd ps []
def CalMX (P : Program) (w : World) (K : PySem.W.Frag) (mg : Str → Option Value) (base : Heap) (k : Nat) (C : Addr) (m : Str) (ps : List Str) (sp : Sp) : Prop :=
  ∃ (f : Addr) (fd : FuncData), Meth K C m f ∧ FnOk P w K mg base (L2.CX P w) k f fd ps sp ∧ Binds K fd ps []
def CalP (P : Program) (w : World) (K : PySem.W.Frag) (mg : Str → Option Value) (base : Heap) (k : Nat) (C : Addr) (n : Str) (sp : Sp) : Prop :=
  ∃ (p f : Addr) (fd : FuncData), PropOf K C n p f ∧ FnOk P w K mg base CX0 k f fd ["self"] sp ∧ Binds K fd ["self"] []
section
variable {P : Program} {w : World} {K : PySem.W.Frag} {mg : Str → Option Value} {base : Heap} {k j : Nat} {C : Addr} {m : Str} {ps : List Str} {sp : Sp}
theorem CalM.mono (c : CalM P w K mg base j C m ps sp) (h : j ≤ k) : CalM P w K mg base k C m ps sp := by
  obtain ⟨f, fd, M, F, b⟩ := c
  exact ⟨f, fd, M, F.mono h, b⟩
theorem CalMX.mono (c : CalMX P w K mg base j C m ps sp) (h : j ≤ k) : CalMX P w K mg base k C m ps sp := by
  obtain ⟨f, fd, M, F, b⟩ := c
  exact ⟨f, fd, M, F.mono h, b⟩
theorem CalP.mono (c : CalP P w K mg base j C m sp) (h : j ≤ k) : CalP P w K mg base k C m sp := by
  obtain ⟨p, f, fd, M, F, b⟩ := c
  exact ⟨p, f, fd, M, F.mono h, b⟩
end
/-! ### promises to raise -/
end Cs
set_option maxHeartbeats 4000000
namespace Cs
open PySem PySem.Spec PyProof.Rows L2
/-! ### what a thing says -/
section
variable {X : Cx} {K : PySem.W.Frag}
theorem call_list_ofK (hk : X.K = K) : CallR X (.type "list") (fun xs H Q => ∃ p ys, xs = [.ref p] ∧ (SqL K H p ys ∨ SqT K H p ys) ∧ ∀ l, H l = none → Q (.ref l) (upd H l (.lst ys))) := hk ▸ call_list_of
end
end Cs
set_option maxHeartbeats 4000000
namespace Cs
open PySem PySem.Spec PyProof.Rows L2
/-! ### the other deck: the script's list, the next cell, what is left of a cell, the state, how many draws are left -/
section
variable {α β γ : Type} {W : Wd} {K : PySem.W.Frag} {ta tb tc : TE} {t : Ty α} {u : Ty β} {x x' : α} {y : β} {tt uu : TT} {ar : TA} {fs : List SF} {i j : Int} {E : XK} {ts us : TS} {D : Ends} {z z' : Str} {g : TG} {as : α → List (Nat × SF)} {wi : TI}
/-! ### lowest terms -/
theorem evx_sub {P P' : Int → Prop} (ha : Evx W ta tInt P) (hb : Evx W tb tInt P') : Evx W (tOp (rI0 fun i j => .int (i - j)) ta tb) tInt (fun s => ∃ i j, P i ∧ P' j ∧ s = i - j) := fun σ H o Q q =>
  ha σ H o _ fun v i H1 p1 g1 r1 => hb σ H1 g1.ok _ fun v2 j H2 p2 g2 r2 => ⟨i, j, r1, r2, q _ _ H2 ⟨i, j, p1, p2, rfl⟩ (g1.trans g2) rfl⟩
end
end Cs
set_option maxHeartbeats 4000000
set_option maxHeartbeats 4000000
set_option maxHeartbeats 4000000
namespace Cs
open PySem PySem.Spec PyProof.Rows L2
/-! ### places in short lists -/
theorem in0 {α : Type} {a : α} {l : List α} : a ∈ a :: l := List.mem_cons_self ..
theorem in1 {α : Type} {a b : α} {l : List α} : a ∈ b :: a :: l := List.mem_cons_of_mem _ in0
end Cs
set_option maxHeartbeats 4000000
namespace Cs
open PySem PySem.Spec PyProof.Rows L2
/-! ### calls that raise -/
def CalX (P : Program) (w : World) (K : PySem.W.Frag) (mg : Str → Option Value) (base : Heap) (k : Nat) (x : Str) (ps : List Str) (sp : Sp) : Prop :=
  ∃ (f : Addr) (fd : FuncData), FnOk P w K mg base (L2.CX P w) k f fd ps sp ∧ mg x = some (.ref f) ∧ PySem.W.keepIn K (.ref f) = true ∧ Binds K fd ps []
section
variable {P : Program} {w : World} {K : PySem.W.Frag} {mg : Str → Option Value} {base : Heap} {k j : Nat} {x : Str} {ps : List Str} {sp : Sp} {st : Stmt}
theorem CalX.of (F : FunG K mg x st ps) (h : ∀ {f : Addr} {fd : FuncData}, Fun K x x st f fd → FnOk P w K mg base (L2.CX P w) k f fd ps sp) : CalX P w K mg base k x ps sp := by
  obtain ⟨f, fd, F, g, b⟩ := F
  exact ⟨f, fd, h F, g, F.kp, b⟩
theorem CalX.mono (c : CalX P w K mg base j x ps sp) (h : j ≤ k) : CalX P w K mg base k x ps sp := by
  obtain ⟨f, fd, F, g⟩ := c
  exact ⟨f, fd, F.mono h, g⟩
end
/-! ### lists as cells, each item with its value -/
section
variable {α β γ δ : Type} {W : Wd} {K : PySem.W.Frag} {ta tb tc td ty tx : TE} {t : Ty α} {u : Ty β} {x x' : α} {y : β} {tt uu : TT} {ar ak : TA} {fs : List SF} {i : Nat} {E : XK} {ts us vs : TS} {D : Ends} {g : TG} {as : α → List (Nat × SF)} {wi : TI} {xs : List α} {vxs : List (V × α)} {p : Addr}
/-! ### promises of several kinds -/
/-- what is promised without errors is promised among errors too -/
theorem FnOk.toX {P : Program} {w : World} {mg : Str → Option Value} {base : Heap} {k : Nat} {f : Addr} {fd : FuncData} {ps : List Str} {sp : Sp} (F : FnOk P w K mg base CX0 k f fd ps sp) : FnOk P w K mg base (L2.CX P w) k f fd ps sp :=
  ⟨F.len, fun A outer s H args us vs Q E hr he hb hv hs => codeAny_mono (F.run A outer s H args us vs Q E hr he hb hv hs) fun r s' h => by
    cases r with
    | error e => exact h.elim
    | ok fl => cases fl <;> exact h⟩
end
end Cs
set_option maxHeartbeats 4000000
set_option maxHeartbeats 4000000
set_option maxHeartbeats 4000000
set_option maxHeartbeats 4000000
namespace Cs
open PySem PySem.Spec PyProof.Rows L2
section
variable {α β γ δ : Type} {W : Wd} {K : PySem.W.Frag} {ta tb tc td : TE} {t : Ty α} {u : Ty β} {x x' : α} {y : β} {tt uu : TT} {ar ak : TA} {fs : List SF} {i : Nat} {E : XK} {ts us vs : TS} {D : Ends} {r : RS} {q p : Addr} {vxs : List (V × α)} {xs ys : List α} {z : Str}
theorem ivx_list {P : List α → Prop} (h : Evx W ta (tLs K t) P) : Ivx W (iList K ta) t P := fun σ H o R q => h σ H o _ fun v xs H1 px g1 ⟨p, vs, e, s, al⟩ =>
  ⟨p, e, ⟨vs, (SqL.of (hid_sub _ _ s))⟩, q _ _ _ (ffL K t p vs xs) px g1 ⟨SqL.of s, al⟩ ⟨YAt vs, by
    rw [← al.length]
    exact walk_list.mono (fun H ⟨S, z⟩ => hid_sub.seq z.1) fun i H v H' _ _ h => h, fun i H v H' S hi z _ ⟨e1, e2⟩ => by
    subst e1
    obtain ⟨x, h1, h2⟩ := z.2.getV e2
    exact ⟨Same.refl _, x, h1, h2⟩⟩⟩
/-! ### calls that change things, their arguments of several answers -/
/-! ### tests that change things -/
/-! ### written forms -/
/-! ### answers that are new -/
end
end Cs
set_option maxHeartbeats 4000000
set_option maxHeartbeats 4000000
set_option maxHeartbeats 4000000
set_option maxHeartbeats 4000000
namespace Cs
open PySem PySem.Spec PyProof.Rows L2 GenW
/-! ### any, all of a generator expression of any element (own defs called, things changed) -/
section
variable {X : Cx} {pins : List (Addr × Obj)} {σ : L2.St} {H : Hp} {s : Shared}
/-- a generator expression's names: its own ahead, then the captured ones with their places in the def -/
structure GxS (N : List Str) (sc scope : Scope) (own : List Str) (fr : List (Str × Nat)) : Prop where
  kind : scope.kind = .function
  co : scope.isCoroutine = false
  cell : ∀ y ∈ scope.names, y.2 ≠ .cell
  dot : scope.names.lookup (".0" : Str) = some NameKind.local
  loc : ∀ x ∈ own, scope.names.lookup x = some .local
  cap : ∀ p ∈ fr, scope.names.lookup p.1 = some .free ∧ N[p.2]? = some p.1
  free : ∀ y ∈ scope.names, y.2 = .free → sc.names.lookup y.1 = some .cell ∨ sc.names.lookup y.1 = some .free
  uniq : ∀ y ∈ scope.names, scope.names.lookup y.1 = some y.2
def gxN (own : List Str) (fr : List (Str × Nat)) : List Str := own ++ fr.map (·.1)
def gxσ (own : List Str) (fr : List (Str × Nat)) (σ : L2.St) : L2.St := own.map (fun _ => none) ++ fr.map (fun p => (σ[p.2]?).getD none)
abbrev gxc (X : Cx) (NG : List Str) (s : Shared) (H : Hp) (cenv : Env) (fp : List Addr) (pn : List (Addr × Obj)) : Cx :=
  { X with A := X.A.in1.in1.deeper cenv, N := NG, s_0 := s, H_0 := H, env := cenv, outer := X.stack, stack := cenv :: X.stack, ex := fp, fn := fun _ => false, pn := pn, xe := fun _ _ => False }
theorem gx_start {own : List Str} {fr : List (Str × Nat)} {scope : Scope} {fp : List Addr} {pn : List (Addr × Obj)} {code : Value} {s' : Shared} (S : GxS X.N X.env.scope scope own fr) (hc : X.calm = true) (I : Inv X pins σ H s)
    (hfp : ∀ b ∈ fp, FpOk X pins H b ∧ b < s.heap.objs.size) (os : s'.os = s.os) (bare : AllBare s'.gens) (kp : ∀ b o, s.heap.get? b = some o → s'.heap.get? b = some o) (ns : ∃ m, s'.heap.Ns s.heap.objs.size m)
    (hpn : ∀ p ∈ pn, s'.heap.get? p.1 = some p.2 ∧ s.heap.objs.size < p.1 ∧ ∀ v, p.2.data ≠ .cell v) :
    Inv (gxc X (gxN own fr) s H (genEnv scope (cloFrom X.env.cells scope.names []) s.heap.objs.size code builtinsNs X.env) fp pn) [] (gxσ own fr σ) H s' := by
  have hfree : ∀ y ∈ scope.names, y.2 = .free → ∃ c, X.env.cells.lookup y.1 = some c := fun y hy e => by
    rcases S.free y hy e with k | k
    · exact I.ok.has _ (.inl k)
    · exact I.ok.has _ (.inr k)
  generalize hcenv : genEnv scope (cloFrom X.env.cells scope.names []) s.heap.objs.size code builtinsNs X.env = cenv
  have hL : cenv.locals = s.heap.objs.size := by rw [← hcenv]; rfl
  have hcl : cenv.cells = cloFrom X.env.cells scope.names [] := by rw [← hcenv]; rfl
  have hsc : cenv.scope = scope := by rw [← hcenv]; rfl
  have mem : ∀ {y c}, cenv.cells.lookup y = some c → X.env.cells.lookup y = some c ∧ c < s.heap.objs.size ∧ scope.names.lookup y = some .free := fun {y c} e => by
    rw [hcl] at e
    rcases cloFrom_mem (PySem.mem_of_lookup e) with hm | ⟨h1, h2⟩
    · cases hm
    · obtain ⟨c', hc'⟩ := hfree _ h1 rfl
      have hc' : X.env.cells.lookup y = some c' := hc'
      rw [hc'] at h2
      have : c = c' := h2
      subst this
      obtain ⟨v, z⟩ := I.cell _ _ hc'
      exact ⟨hc', z.lt, S.uniq _ h1⟩
  have look : ∀ {y}, scope.names.lookup y = some .free → ∃ c, cenv.cells.lookup y = some c ∧ X.env.cells.lookup y = some c := fun {y} hl => by
    obtain ⟨c', e'⟩ := mem_lookup (cloFrom_has (cells := X.env.cells) (acc := []) (PySem.mem_of_lookup hl))
    rw [← hcl] at e'
    exact ⟨c', e', (mem e').1⟩
  have okB : (gxc X (gxN own fr) s H cenv fp pn).Ok := by
    refine ⟨I.ok.mod, by show cenv.scope.kind = _; rw [hsc]; exact S.kind, by show cenv.globals = _; rw [← hcenv]; exact I.ok.glob, by show cenv.builtins = _; rw [← hcenv]; rfl, by show s.heap.objs.size ≤ cenv.locals; rw [hL]; exact Nat.le_refl _,
      fun y z c e1 e2 => ?_, fun y hy => ?_, fun y c z e => (by cases z), fun _ => I.ok.hd hc, Around.frames_deeper I.ok.frames, .inr ⟨rfl, by show cenv.frame = some cenv.locals; rw [← hcenv]; rfl⟩, fun b hb => ⟨?_, fun y c e z => ?_⟩, I.bs, Nat.le_trans I.ok.bsz I.sz, fun b o e hb => ?_, fun b hb z => ?_, I.stack, I.stkFree⟩
    · exact I.ok.inj y z c (mem e1).1 (mem e2).1
    · rcases hy with hy | hy
      · have hy : cenv.scope.names.lookup y = some .cell := hy
        rw [hsc] at hy
        exact absurd rfl (S.cell _ (PySem.mem_of_lookup hy))
      · have hy : cenv.scope.names.lookup y = some .free := hy
        rw [hsc] at hy
        obtain ⟨c, h1, _⟩ := look hy
        exact ⟨c, h1⟩
    · show b ≠ cenv.locals
      rw [hL]; exact Nat.ne_of_lt (hfp b hb).2
    · exact (hfp b hb).1.2.2.2.2.1 y c (mem e).1 z
    · rcases (hfp b hb).1.2.2.2.1 with z | z
      · exact I.ok.noex b o e z
      · exact absurd (Nat.lt_of_lt_of_le (Heap.lt_size e) (Nat.le_trans I.ok.bsz z)) (Nat.lt_irrefl _)
    · rcases List.mem_cons.mp (I.stkSub b z) with z | z
      · exact (hfp b hb).1.2.1 z
      · exact (hfp b hb).1.2.2.1 z
  obtain ⟨m, hm⟩ := ns
  refine ⟨okB, os, bare, Un.kept kp, ⟨m, by show Heap.Ns _ cenv.locals _; rw [hL]; exact hm, fun i y av e1 e2 e3 => ?_⟩, fun y c e => ?_, by show H cenv.locals = none; rw [hL]; exact I.hok.fresh (Nat.le_refl _), fun y c e => I.freeC y c (mem e).1, fun p hp => ?_, I.hok.kept kp, by show (gxσ own fr σ).length = (gxN own fr).length; simp [gxσ, gxN]⟩
  · have e1 : (gxN own fr)[i]? = some y := e1
    unfold gxσ at e2
    unfold gxN at e1
    by_cases hi : i < own.length
    · rw [List.getElem?_append_left (by simpa using hi), List.getElem?_map, List.getElem?_eq_getElem hi] at e2
      cases e2
    · rw [List.getElem?_append_right (by simpa using Nat.le_of_not_lt hi), List.getElem?_map] at e1
      rw [List.getElem?_append_right (by simpa using Nat.le_of_not_lt hi), List.getElem?_map, List.length_map] at e2
      cases hp : fr[i - own.length]? with
      | none => rw [hp] at e1; cases e1
      | some p =>
        rw [hp] at e1 e2
        have ey : p.1 = y := Option.some.inj e1
        obtain ⟨f1, f2⟩ := S.cap p (List.mem_of_getElem? hp)
        have e2 : (σ[p.2]?).getD none = some av := Option.some.inj e2
        have e2' : σ[p.2]? = some (some av) := by
          cases q : σ[p.2]? with
          | none => rw [q] at e2; cases e2
          | some z => rw [q] at e2; rw [show z = some av from e2]
        rw [ey] at f1 f2
        have hvis : Vis X.env.scope y := (S.free _ (PySem.mem_of_lookup f1) rfl).elim (fun k => .inr (.inl k)) (fun k => .inr (.inr k))
        obtain ⟨m', hn, hl⟩ := I.loc
        obtain ⟨u, r, q⟩ := hl p.2 y av f2 e2' hvis
        refine ⟨u, r, .inr ⟨.inr (by show cenv.scope.names.lookup y = _; rw [hsc]; exact f1), ?_⟩⟩
        obtain ⟨c, h1, h2⟩ := look f1
        rcases q with ⟨k, _⟩ | ⟨_, c', e', z⟩
        · have k : X.env.scope.names.lookup y = some .local := k
          rcases S.free _ (PySem.mem_of_lookup f1) rfl with k' | k' <;> rw [show X.env.scope.names.lookup y = _ from k'] at k <;> cases k
        · rw [h2] at e'; cases e'
          exact ⟨c, h1, z.keeps kp⟩
  · obtain ⟨h1, _, _⟩ := mem e
    obtain ⟨v, z⟩ := I.cell y c h1
    exact ⟨v, z.keeps kp⟩
  · have hp : p ∈ pn := by simpa using hp
    obtain ⟨h1, h2, h3⟩ := hpn p hp
    refine ⟨h1, I.hok.fresh (Nat.le_of_lt h2), by show p.1 ≠ cenv.locals; rw [hL]; exact Nat.ne_of_gt h2, fun z => ?_, h3⟩
    obtain ⟨_, o, ho, _⟩ := I.stack.mem z
    exact absurd (Nat.lt_trans h2 (Heap.lt_size ho)) (Nat.lt_irrefl _)
/-- other generators -/
theorem Inv.gens' {G : Array GenState} (I : Inv X pins σ H s) (h : AllBare G) : Inv X pins σ H { s with gens := G } := ⟨I.ok, I.os, h, I.base, I.loc, I.cell, I.free, I.freeC, I.pin, I.hok, I.len⟩
end
/-- asleep: all is as it was but the table of generators -/
structure Woke (s s' : Shared) : Prop where
  heap : s'.heap = s.heap
  os : s'.os = s.os
  bare : AllBare s'.gens
theorem Woke.inv {X : Cx} {pins : List (Addr × Obj)} {σ : L2.St} {H : Hp} {s s' : Shared} (I : Inv X pins σ H s) (z : Woke s s') : Inv X pins σ H s' := by
  obtain ⟨h, g, d, t, o⟩ := s'
  obtain ⟨e1, e2, e3⟩ := z
  have e1 : h = s.heap := e1
  have e2 : o = s.os := e2
  subst e1 e2
  exact I.call' (ch := []) rfl Un.refl I.hok e3 fun b z => by cases z
def RX (F : Bool → Shared → Prop) (sv : Bool) : GenEnd := fun n s₀ r s₁ => ((r = .ok (.ret .none) ∨ r = .ok .next) ∧ F (!sv) s₁) ∨ ∃ e, r = .error e ∧ False
def YX (F : Bool → Shared → Prop) (sv : Bool) (a : Addr) (g : Nat) : Protocol := fun n s₀ v s₁ kap =>
  ∃ b, v = .bool b ∧ AllBare s₁.gens ∧ s₁.heap.NoLimit ∧ s₁.heap.IsGen a g ∧ (b = sv → F sv s₁) ∧ (b ≠ sv → ∀ s', Woke s₁ s' → kap (.send .none) s')
theorem over_gxLoop {A : Around} {elt tg iter : Expr} {ifs : List Expr} {scope : Scope} {pos : Pos} {it acc : Value} {env : Env} : A.over (.compLoop (.GeneratorExp elt [⟨tg, iter, ifs, 0⟩] scope pos) 0 it acc env) [] = A.deeper env := by
  first
    | rfl
    | (obtain ⟨hd, d, fr, gs, u⟩ := A; simp [Around.over, Around.deeper, marksOver, frameCount, unitsOf, envsOf, guardsOf, pushEnvs, pushGuards, Code.envs, Code.env?, Code.isFrame, Code.guards, Code.isGuard, Code.weight, Code.frames, Code.isCreation, Code.isCaller, Code.cUnits])
section
variable {Xg : Cx} {A : Around} {elt tg iter : Expr} {ifs : List Expr} {scope : Scope} {pos : Pos} {it a : Addr} {gn : Nat} {J : It} {fp : List Addr} {tn : Nat → Heap → Prop} {g : TG} {tt : TT} {te : TE} {sv : Bool} {σ0 : L2.St} {W : Nat → Nat → Hp → Prop} {Qe : Bool → Hp → Prop} {own : List Nat}
/-- what the turns want -/
def GxTurn (J : It) (g : TG) (tt : TT) (te : TE) (sv : Bool) (σ0 : L2.St) (own : List Nat) (Qe : Bool → Hp → Prop) (W : Nat → Nat → Hp → Prop) : Prop := ∀ i m H, W i m H → (J.stop i H ∧ Qe (!sv) H) ∨ (J.go i H ∧ ∃ Nx : Hp → Prop, (∀ H', Nx H' → ∃ m', m' < m ∧ W (i + 1) m' H') ∧
  ∀ x H', J.yld i H x H' → g x σ0 H' fun σ2 H2 => wipe σ2 own = σ0 ∧ tt σ2 H2 fun b H3 => if b = true then te σ2 H3 fun y H4 => ∃ c, y = .bl c ∧ (if c = sv then Qe sv H4 else Nx H4) else Nx H3)
def GxF (Xg : Cx) (Qe : Bool → Hp → Prop) (b : Bool) (s : Shared) : Prop := ∃ σ' H', Inv Xg [] σ' H' s ∧ Qe b H'
theorem seg_gx (hA : Xg.A = A.deeper Xg.env) (hcalm : Xg.calm = true) (hco : Xg.env.scope.isCoroutine = false) (hex : Xg.ex = fp) (hxe : Xg.xe = fun _ _ => False) (T : Turn Xg.prog Xg.w Xg.K tg J fp it tn) (pg : PG Xg tg g) (pt : PTs Xg ifs tt) (pe : PE Xg elt te)
    (hpn : ∀ b ∈ fp, ∀ p ∈ Xg.pn, p.1 ≠ b) (hgen : ∀ pins σ H s, Inv Xg pins σ H s → s.heap.IsGen a gn) (turn : GxTurn J g tt te sv σ0 own Qe W) :
    ∀ (m n i : Nat) (s₀ s : Shared) (H : Hp), m < n → Inv Xg [] σ0 H s → tn i s.heap → (∀ b ∈ fp, H b = none) → W i m H →
      Seg (model Xg.prog Xg.w) A (RX (GxF Xg Qe) sv) (YX (GxF Xg Qe) sv a gn) n s₀ (.compLoop (.GeneratorExp elt [⟨tg, iter, ifs, 0⟩] scope pos) 0 (.ref it) .none Xg.env)
        ((model Xg.prog Xg.w).den (.compLoop (.GeneratorExp elt [⟨tg, iter, ifs, 0⟩] scope pos) 0 (.ref it) .none Xg.env)) [] s := by
  have cv : ∀ {α : Type} {t : Sem α} {Q : α → Shared → Prop} {s : Shared}, wpAny (model Xg.prog Xg.w) Xg.A t Q Xg.xe s → wpAny (model Xg.prog Xg.w) Xg.A t Q (fun _ _ => False) s := fun h => by rw [hxe] at h; exact h
  have stat : ∀ {σ' : L2.St} {H' : Hp} {s' : Shared}, Inv Xg [] σ' H' s' → (∀ b ∈ fp, H' b = none) → ∀ b ∈ fp, FpOk Xg [] H' b := fun {σ' H' s'} I' hn b hb =>
    ⟨hn b hb, (I'.ok.exf b (hex ▸ hb)).1, I'.ok.exfs b (hex ▸ hb), .inl (hex ▸ hb), fun x c e => (I'.ok.exf b (hex ▸ hb)).2 x c e, fun p hp => hpn b hb p (by simpa using hp)⟩
  intro m
  induction m using Nat.strongRecOn with
  | ind m ih =>
    intro n i s₀ s H hmn I st hn w
    show Seg _ A _ _ _ s₀ _ ((compTurn (.GeneratorExp elt [⟨tg, iter, ifs, 0⟩] scope pos) 0 (.ref it) .none Xg.env).onRaise (leaving Xg.env)) [] s
    rw [compTurn_gen, Sem.onRaise_eq_wrap]
    refine seg_bind_wrap (wpAny_standAt ?_)
    rcases turn i m H w with ⟨stop, q⟩ | ⟨go, Nx, hNx, step⟩
    · have td := T.done Xg rfl rfl rfl hcalm i [] s _ H (fun _ _ => False) I (stat I hn) st stop
      refine seg_bind_wrap ?_
      rw [over_gxLoop, ← hA]
      refine thnF td fun r s6 ⟨hr, I6⟩ => ?_
      subst hr
      exact seg_end (.ok .next) (.inl ⟨.inr rfl, σ0, H, I6, q⟩)
    · have ti := T.item Xg rfl rfl rfl hcalm i [] s _ H (fun _ _ => False) I (stat I hn) st go
      refine seg_bind_wrap ?_
      rw [over_gxLoop, ← hA]
      refine thnF ti fun r s6 ⟨u, hr, h6⟩ => ?_
      subst hr
      refine seg_bind_wrap ?_
      rw [over_gxLoop, ← hA]
      refine thnF h6 fun _ s7 ⟨x, H7, I7, r7, y7, st7, n7⟩ => ?_
      have I7' := I7.pinned (stat I7 n7) (T.obj _ _ st7)
      refine seg_bind_wrap ?_
      rw [over_gxLoop, ← hA]
      refine thnF (cv (pg.run _ s7 _ H7 x u _ I7' r7 (step x H7 y7))) fun _ s8 ⟨σ8, H8, I8, hw8, q8⟩ => ?_
      refine seg_bind_wrap ?_
      rw [over_gxLoop, ← hA]
      refine thnF (cv (pt.run _ s8 σ8 H8 _ I8 q8)) fun b s9 ⟨H9, I9, q9⟩ => ?_
      have fin : ∀ {s' s'' : Shared} {H' : Hp}, Inv Xg ([] ++ pinsAt fp s7.heap) σ8 H' s' → Woke s' s'' → Nx H' → ∀ n', m ≤ n' → Seg (model Xg.prog Xg.w) A (RX (GxF Xg Qe) sv) (YX (GxF Xg Qe) sv a gn) n' s'' (.compLoop (.GeneratorExp elt [⟨tg, iter, ifs, 0⟩] scope pos) 0 (.ref it) .none Xg.env)
        ((model Xg.prog Xg.w).den (.compLoop (.GeneratorExp elt [⟨tg, iter, ifs, 0⟩] scope pos) 0 (.ref it) .none Xg.env)) [] s'' := fun {s' s'' H'} I' z nx n' hn' => by
        obtain ⟨m', hm, w'⟩ := hNx H' nx
        have pin' : ∀ b ∈ fp, ∀ o, s7.heap.get? b = some o → s'.heap.get? b = some o ∧ H' b = none := fun b hb o e =>
          let z := I'.pin (b, o) (List.mem_append_right _ (List.mem_append_right _ (mem_pinsAt hb e)))
          ⟨z.1, z.2.1⟩
        have hl : σ0.length = σ8.length := by rw [← hw8, wipe_length]
        have I2 : Inv Xg [] σ0 H' s' := (I'.unpinned (pins := [])).weak hl (fun j v e => by rw [← hw8] at e; exact (wipe_some e).1)
        refine ih m' hm n' (i + 1) s'' s'' H' (by omega) (Woke.inv I2 z) (by rw [z.heap]; exact T.keep _ _ _ st7 fun b hb o e => (pin' b hb o e).1) (fun b hb => ?_) w'
        obtain ⟨o, e, _⟩ := T.obj _ _ st7 b hb
        exact (pin' b hb o e).2
      have fin0 : ∀ {s' : Shared} {H' : Hp}, Inv Xg ([] ++ pinsAt fp s7.heap) σ8 H' s' → Nx H' → Seg (model Xg.prog Xg.w) A (RX (GxF Xg Qe) sv) (YX (GxF Xg Qe) sv a gn) n s₀ (.compLoop (.GeneratorExp elt [⟨tg, iter, ifs, 0⟩] scope pos) 0 (.ref it) .none Xg.env)
        ((model Xg.prog Xg.w).den (.compLoop (.GeneratorExp elt [⟨tg, iter, ifs, 0⟩] scope pos) 0 (.ref it) .none Xg.env)) [] s' := fun {s' H'} I' nx => by
        obtain ⟨m', hm, w'⟩ := hNx H' nx
        have pin' : ∀ b ∈ fp, ∀ o, s7.heap.get? b = some o → s'.heap.get? b = some o ∧ H' b = none := fun b hb o e =>
          let z := I'.pin (b, o) (List.mem_append_right _ (List.mem_append_right _ (mem_pinsAt hb e)))
          ⟨z.1, z.2.1⟩
        have hl : σ0.length = σ8.length := by rw [← hw8, wipe_length]
        have I2 : Inv Xg [] σ0 H' s' := (I'.unpinned (pins := [])).weak hl (fun j v e => by rw [← hw8] at e; exact (wipe_some e).1)
        refine ih m' hm n (i + 1) s₀ s' H' (by omega) I2 (T.keep _ _ _ st7 fun b hb o e => (pin' b hb o e).1) (fun b hb => ?_) w'
        obtain ⟨o, e, _⟩ := T.obj _ _ st7 b hb
        exact (pin' b hb o e).2
      cases b with
      | false =>
        simp only [Bool.false_eq_true, if_false] at q9 ⊢
        exact seg_again rfl (fin0 I9 q9)
      | true =>
        simp only [if_true] at q9 ⊢
        have hy : ∀ v, yieldOut Xg.env v = yieldValue v := fun v => by simp only [yieldOut, hco, Bool.false_eq_true, if_false]
        simp only [hy]
        rw [Sem.bind_eq_wrap', Sem.bind_eq_wrap', Sem.wrap_wrap, Sem.wrap_wrap]
        obtain ⟨n', rfl⟩ : ∃ n', n = n' + 1 := ⟨n - 1, by omega⟩
        refine seg_wrap ?_
        rw [over_gxLoop, ← hA]
        refine thnF (cv (pe.run _ s9 σ8 H9 _ I9 q9)) fun z s10 ⟨yv, H10, I10, r10, c, ey, qc⟩ => ?_
        subst ey
        obtain rfl : z = .bool c := r10
        refine seg_at (seg_yield rfl rfl rfl ?_)
        refine ⟨c, rfl, I10.bare, I10.nolimit, hgen _ _ _ _ I10, fun e => ?_, fun e s'' zz => ?_⟩
        · rw [if_pos e] at qc
          exact ⟨σ8, H10, I10.unpinned, qc⟩
        · rw [if_neg e] at qc
          exact seg_again rfl (fin I10 zz qc n' (by omega))
theorem seg_gxStart (hA : Xg.A = A.deeper Xg.env) (hcalm : Xg.calm = true) (hco : Xg.env.scope.isCoroutine = false) (hex : Xg.ex = fp) (hxe : Xg.xe = fun _ _ => False) (T : Turn Xg.prog Xg.w Xg.K tg J fp it tn) (pg : PG Xg tg g) (pt : PTs Xg ifs tt) (pe : PE Xg elt te)
    (hpn : ∀ b ∈ fp, ∀ p ∈ Xg.pn, p.1 ≠ b) (hgen : ∀ pins σ H s, Inv Xg pins σ H s → s.heap.IsGen a gn) (turn : GxTurn J g tt te sv σ0 own Qe W) {m n : Nat} {s₀ s : Shared} {H : Hp} (hmn : m < n) (I : Inv Xg [] σ0 H s) (st : tn 0 s.heap) (hn : ∀ b ∈ fp, H b = none) (w : W 0 m H) :
    Seg (model Xg.prog Xg.w) A (RX (GxF Xg Qe) sv) (YX (GxF Xg Qe) sv a gn) n s₀ (.compStart (.GeneratorExp elt [⟨tg, iter, ifs, 0⟩] scope pos) 0 (.ref it) .none Xg.env)
      ((model Xg.prog Xg.w).den (.compStart (.GeneratorExp elt [⟨tg, iter, ifs, 0⟩] scope pos) 0 (.ref it) .none Xg.env)) [] s := by
  have loop := seg_gx (iter := iter) (scope := scope) (pos := pos) hA hcalm hco hex hxe T pg pt pe hpn hgen turn m n 0 s₀ s H hmn I st hn w
  show Seg _ A _ _ _ s₀ _ ((compStart (.GeneratorExp elt [⟨tg, iter, ifs, 0⟩] scope pos) 0 (.ref it) .none Xg.env).onRaise (leaving Xg.env)) [] s
  unfold compStart
  rw [Sem.onRaise_eq_wrap]
  show Seg _ A _ _ _ s₀ _ ((ask >>= _).wrap _ _ _ _) [] s
  refine seg_bind_wrap (wpAny_askSetting ?_)
  split
  · exact seg_again rfl loop
  · first
      | exact seg_bind_wrap (wpAny_rule (seg_bind_wrap (wpAny_standAt (seg_bind_wrap (T.self _ 0 s _ _ st (seg_again rfl loop))))))
      | (refine seg_bind_wrap (wpAny_rule ?_); show Seg _ A _ _ _ s₀ _ ((standAt iter.pos >>= _).wrap _ _ _ _) [] s; exact seg_bind_wrap (wpAny_standAt (seg_bind_wrap (T.self _ 0 s _ _ st (seg_again rfl loop)))))
end
/-! ### the consumers -/
section
variable {P : Program} {w : World} {A : Around} {F : Bool → Shared → Prop} {a : Addr} {gn : Nat} {Res : Result → Shared → Prop}
theorem loop_all (hh : A.handled = none) (hd : A.depth < recursionLimit) (hFg : ∀ b s G, F b s → AllBare G → F b { s with gens := G }) (hFk : ∀ b (s : Shared) h', F b s → (∀ b o, s.heap.get? b = some o → h'.get? b = some o) → F b { s with heap := h' }) (hFb : ∀ b s, F b s → AllBare s.gens)
    (hR : ∀ b s, F b s → Res (.ok (.ret (.bool b))) s) : ∀ (n : Nat) (s : Shared), s.heap.IsGen a gn → s.heap.NoLimit → (∃ gs, s.gens[gn]? = some gs ∧ gs.Goes (model P w) A.in1.in1 (RX F false) (YX F false a gn) n (.send .none) (s.setGen gn .running)) →
      codeAny (model P w) A (.builtin "all.loop" ⟨[.ref a], []⟩) Res s := by
  intro n
  induction n with
  | zero =>
    intro s hg hl ⟨gs, hgs, hgo⟩
    refine codeAny_builtin PySem.F.entry_all_loop ?_
    rw [Around.under_plainId PySem.F.plain_all_loop _]
    show wpAny _ A.in1 (pyNext (.ref a) >>= _) _ _ s
    refine wpAny_bind (next_genG (A := A.in1) (F := fun _ _ s₁ => F true s₁) (Er := fun _ _ => False) hh hl hd hg hgs hgo (fun v s₁ gs' hb hv => ?_) (fun s₁ hp h' hk => ?_) fun e s₁ he => he.elim)
    · obtain ⟨b, rfl, q1, q2, q3, q4, q5⟩ := id hv
      refine wpAny_bind (wpAny_holding (wpAny_truthy_bool ?_))
      refine wpAny_bind (wpAny_letGo ?_)
      cases b with
      | true => exact (q5 (by decide) s₁ ⟨rfl, rfl, q1⟩).elim
      | false =>
        simp only [Bool.false_eq_true, if_false]
        refine wpAny_bind (wpAny_rule (wpAny_pure ?_))
        exact hR _ _ (hFg _ _ _ (q4 rfl) (allBare_setGen q1 hb))
    · refine wpAny_bind (wpAny_rule (wpAny_pure ?_))
      exact hR _ _ (hFk _ _ _ (hFg _ _ _ hp (allBare_setGen (hFb _ _ hp) rfl)) hk)
  | succ n ih =>
    intro s hg hl ⟨gs, hgs, hgo⟩
    have hgl : gn < s.gens.size := (Array.getElem?_eq_some_iff.mp hgs).1
    refine codeAny_builtin PySem.F.entry_all_loop ?_
    rw [Around.under_plainId PySem.F.plain_all_loop _]
    show wpAny _ A.in1 (pyNext (.ref a) >>= _) _ _ s
    refine wpAny_bind (wpAny_gsz (n := gn + 1) hgl (next_genG (A := A.in1) (F := fun _ _ s₁ => F true s₁) (Er := fun _ _ => False) hh hl hd hg hgs hgo (fun v s₁ gs' hb hv => ?_) (fun s₁ hp h' hk => ?_) fun e s₁ he => he.elim))
    · intro hsz
      obtain ⟨b, rfl, q1, q2, q3, q4, q5⟩ := hv
      have hsz1 : gn < s₁.gens.size := by
        have q : (s₁.setGen gn gs').gens.size = s₁.gens.size := setGen_size _ _ _
        have hsz' : gn + 1 ≤ (s₁.setGen gn gs').gens.size := hsz
        omega
      refine wpAny_bind (wpAny_holding (wpAny_truthy_bool ?_))
      refine wpAny_bind (wpAny_letGo ?_)
      cases b with
      | true =>
        simp only [if_true]
        refine wpAny_pure ⟨plainId_quiet PySem.F.plain_all_loop _, ih _ q3 q2 ⟨gs', setGen_at hsz1, ?_⟩⟩
        exact q5 (by decide) _ ⟨rfl, rfl, allBare_setGen (s := s₁.setGen gn gs') (allBare_setGen q1 hb) rfl⟩
      | false =>
        simp only [Bool.false_eq_true, if_false]
        refine wpAny_bind (wpAny_rule (wpAny_pure ?_))
        exact hR _ _ (hFg _ _ _ (q4 rfl) (allBare_setGen q1 hb))
    · intro _
      refine wpAny_bind (wpAny_rule (wpAny_pure ?_))
      exact hR _ _ (hFk _ _ _ (hFg _ _ _ hp (allBare_setGen (hFb _ _ hp) rfl)) hk)
theorem loop_any (hh : A.handled = none) (hd : A.depth < recursionLimit) (hFg : ∀ b s G, F b s → AllBare G → F b { s with gens := G }) (hFk : ∀ b (s : Shared) h', F b s → (∀ b o, s.heap.get? b = some o → h'.get? b = some o) → F b { s with heap := h' }) (hFb : ∀ b s, F b s → AllBare s.gens)
    (hR : ∀ b s, F b s → Res (.ok (.ret (.bool b))) s) : ∀ (n : Nat) (s : Shared), s.heap.IsGen a gn → s.heap.NoLimit → (∃ gs, s.gens[gn]? = some gs ∧ gs.Goes (model P w) A.in1.in1 (RX F true) (YX F true a gn) n (.send .none) (s.setGen gn .running)) →
      codeAny (model P w) A (.builtin "any.loop" ⟨[.ref a], []⟩) Res s := by
  intro n
  induction n with
  | zero =>
    intro s hg hl ⟨gs, hgs, hgo⟩
    refine codeAny_builtin PySem.F.entry_any_loop ?_
    rw [Around.under_plainId PySem.F.plain_any_loop _]
    show wpAny _ A.in1 (pyNext (.ref a) >>= _) _ _ s
    refine wpAny_bind (next_genG (A := A.in1) (F := fun _ _ s₁ => F false s₁) (Er := fun _ _ => False) hh hl hd hg hgs hgo (fun v s₁ gs' hb hv => ?_) (fun s₁ hp h' hk => ?_) fun e s₁ he => he.elim)
    · obtain ⟨b, rfl, q1, q2, q3, q4, q5⟩ := id hv
      refine wpAny_bind (wpAny_holding (wpAny_truthy_bool ?_))
      refine wpAny_bind (wpAny_letGo ?_)
      cases b with
      | false => exact (q5 (by decide) s₁ ⟨rfl, rfl, q1⟩).elim
      | true =>
        simp only [if_true]
        refine wpAny_bind (wpAny_rule (wpAny_pure ?_))
        exact hR _ _ (hFg _ _ _ (q4 rfl) (allBare_setGen q1 hb))
    · refine wpAny_bind (wpAny_rule (wpAny_pure ?_))
      exact hR _ _ (hFk _ _ _ (hFg _ _ _ hp (allBare_setGen (hFb _ _ hp) rfl)) hk)
  | succ n ih =>
    intro s hg hl ⟨gs, hgs, hgo⟩
    have hgl : gn < s.gens.size := (Array.getElem?_eq_some_iff.mp hgs).1
    refine codeAny_builtin PySem.F.entry_any_loop ?_
    rw [Around.under_plainId PySem.F.plain_any_loop _]
    show wpAny _ A.in1 (pyNext (.ref a) >>= _) _ _ s
    refine wpAny_bind (wpAny_gsz (n := gn + 1) hgl (next_genG (A := A.in1) (F := fun _ _ s₁ => F false s₁) (Er := fun _ _ => False) hh hl hd hg hgs hgo (fun v s₁ gs' hb hv => ?_) (fun s₁ hp h' hk => ?_) fun e s₁ he => he.elim))
    · intro hsz
      obtain ⟨b, rfl, q1, q2, q3, q4, q5⟩ := hv
      have hsz1 : gn < s₁.gens.size := by
        have q : (s₁.setGen gn gs').gens.size = s₁.gens.size := setGen_size _ _ _
        have hsz' : gn + 1 ≤ (s₁.setGen gn gs').gens.size := hsz
        omega
      refine wpAny_bind (wpAny_holding (wpAny_truthy_bool ?_))
      refine wpAny_bind (wpAny_letGo ?_)
      cases b with
      | false =>
        simp only [Bool.false_eq_true, if_false]
        refine wpAny_pure ⟨plainId_quiet PySem.F.plain_any_loop _, ih _ q3 q2 ⟨gs', setGen_at hsz1, ?_⟩⟩
        exact q5 (by decide) _ ⟨rfl, rfl, allBare_setGen (s := s₁.setGen gn gs') (allBare_setGen q1 hb) rfl⟩
      | true =>
        simp only [if_true]
        refine wpAny_bind (wpAny_rule (wpAny_pure ?_))
        exact hR _ _ (hFg _ _ _ (q4 rfl) (allBare_setGen q1 hb))
    · intro _
      refine wpAny_bind (wpAny_rule (wpAny_pure ?_))
      exact hR _ _ (hFk _ _ _ (hFg _ _ _ hp (allBare_setGen (hFb _ _ hp) rfl)) hk)
end
end Cs
set_option maxHeartbeats 4000000
namespace Cs
open PySem PySem.Spec PyProof.Rows L2 GenW
/-- a generator that is ready to be asked by all (sv = false) or any (sv = true) -/
def ReadyX (X : Cx) (pins : List (Addr × Obj)) (σ : L2.St) (Q : VK) (sv : Bool) (a : Addr) (s5 : Shared) : Prop :=
  ∃ (gn : Nat) (F : Bool → Shared → Prop) (n : Nat), s5.heap.IsGen a gn ∧ s5.heap.NoLimit ∧ (∃ gs, s5.gens[gn]? = some gs ∧ gs.Goes (model X.prog X.w) X.A.in1.in1 (RX F sv) (YX F sv a gn) n (.send .none) (s5.setGen gn .running)) ∧
    (∀ b s G, F b s → AllBare G → F b { s with gens := G }) ∧ (∀ b (s : Shared) h', F b s → (∀ b o, s.heap.get? b = some o → h'.get? b = some o) → F b { s with heap := h' }) ∧ (∀ b s, F b s → AllBare s.gens) ∧ ∀ b s', F b s' → EP X pins σ Q (.bool b) s'
/-- the frame's environment -/
abbrev gxE (X : Cx) (scope : Scope) (C : Addr) (code : Value) : Env := genEnv scope (cloFrom X.env.cells scope.names []) C code builtinsNs X.env
def tGx (P : Addr) (sv : Bool) (wi : TI) (g : TG) (tt : TT) (te : TE) (own : List Str) (fr : List (Str × Nat)) : TE := fun σ H Q => wi σ H fun J H1 => GxR.TabG H1 P ∧ ∀ H2, GxR.Tabbed P H1 H2 →
  ∃ W : Nat → Nat → Hp → Prop, (∃ m, W 0 m H2) ∧ GxTurn J g tt te sv (gxσ own fr σ) (List.range own.length) (fun b H => Q (.bl b) H) W
section
variable {X : Cx} {pins : List (Addr × Obj)} {σ : L2.St} {H : Hp} {s : Shared} {c P : Addr} {elt tg iter : Expr} {ifs : List Expr} {p pos gpos : Pos} {scope : Scope} {wi : TI} {g : TG} {tt : TT} {te : TE} {k : Nat} {own : List Str} {fr : List (Str × Nat)} {sv : Bool} {Q : VK} {Q' : Value → Shared → Prop}
theorem gx_over (hr : Room k X.A) (TB : GxR.TabB X.base X.mg c P) (hcode : X.env.code = .ref c) (S : GxS X.N X.env.scope scope own fr) (hc : X.calm = true) (hi : PI X tg iter wi) (hs : ∀ v, genFold iter X.env v = pure v)
    (hg : ∀ s H C code fp pn, PG (gxc X (gxN own fr) s H (gxE X scope C code) fp pn) tg g) (ht : ∀ s H C code fp pn, PTs (gxc X (gxN own fr) s H (gxE X scope C code) fp pn) ifs tt) (he : ∀ s H C code fp pn, PE (gxc X (gxN own fr) s H (gxE X scope C code) fp pn) elt te)
    (I : Inv X pins σ H s) (h : tGx P sv wi g tt te own fr σ H Q) (hQ : ∀ a s5, ReadyX X pins σ Q sv a s5 → Q' (.ref a) s5) :
    wpAny (model X.prog X.w) X.A (eval (.GeneratorExp elt [⟨tg, iter, ifs, 0⟩] scope gpos) X.env) Q' X.xe s := by
  have hfree : ∀ y ∈ scope.names, y.2 = .free → ∃ c, X.env.cells.lookup y.1 = some c := fun y hy e => by
    rcases S.free y hy e with k | k
    · exact I.ok.has _ (.inl k)
    · exact I.ok.has _ (.inr k)
  refine wpAny_GeneratorExp_make S.co (closure_ok hfree) S.cell S.dot S.kind hr.depth ?_ hs
  refine thn (hi.run pins s σ H _ I h) fun xv s1 hx => thn hx fun itv s2 h2 => ?_
  obtain ⟨it, fp, tn, J, HA, e, IA, T, st, f2, ⟨ps, hP, okP⟩, q⟩ := h2
  subst e
  refine ⟨IA.nolimit, ?_⟩
  have atP : s2.heap.get? P = some { cls := .none, data := .fields ps } := IA.hok P _ hP
  have hd : PySem.W.CodeHd s2.heap c P := TB.code.keeps fun b u q => IA.bk b u q
  have go : ∀ (code : Value) (hC : Heap) (tk : Nat) (more : Array Value), Heap.ExtBut P s2.heap hC → s2.heap.objs.size ≤ hC.objs.size → hC.get? P = some { cls := .none, data := .fields (ps ++ more) } → TriplesOk (ps ++ more).toList →
      wpAny (model X.prog X.w) X.A (builtinsFor X.env.globals X.env.builtins) (fun bi s₄ => ∀ h', h'.Ns s₄.heap.objs.size (fun y => if y = ".0" then some (.ref it) else none) → Heap.SameBut s₄.heap.objs.size (s₄.heap.push { cls := .type "frame", data := .dict #[] }) h' →
          Q' (.ref h'.objs.size) { s₄ with
            gens := s₄.gens.push (.fresh (.compStart (.GeneratorExp elt [⟨tg, iter, ifs, 0⟩] scope gpos) 0 (.ref it) .none (genEnv scope (cloFrom X.env.cells scope.names []) s₄.heap.objs.size code bi X.env))),
            toks := s₄.toks + 1 + 1 + 1,
            heap := h'.push { cls := .type "generator", data := .fields #[.int s₄.gens.size 0, .str "<genexpr>" (s₄.toks + 1), .str (X.env.qual ++ "<genexpr>") (s₄.toks + 1 + 1)] } }) X.xe { s2 with heap := hC, toks := tk } := by
    intro code hC tk more ext big tabC okC
    obtain ⟨bm, ob, b1, b2, b3, b4, b5, b6, b7, b8⟩ := TB.bm
    have old : ∀ b u, b ≠ P → s2.heap.get? b = some u → hC.get? b = some u := fun b u n q => ext b u n q
    refine wpAny_builtinsFor (m := X.mg) (by rw [IA.ok.glob]; exact (IA.mod.glob.keeps IA.bk).extBut ext TB.gP) b1 b2 (old _ _ b4 (IA.bk _ _ b5)) b6 b7 b8 ?_
    intro h' hn' hs'
    have hn' : h'.Ns hC.objs.size (fun y => if y = ".0" then some (.ref it) else none) := hn'
    have hs' : Heap.SameBut hC.objs.size (hC.push { cls := .type "frame", data := .dict #[] }) h' := hs'
    have I4 : Inv X pins σ (upd HA P (.tbl (ps ++ more))) { s2 with heap := hC, toks := tk } := GxR.inv_tab (more := more) (h' := hC) (g' := s2.gens) (d' := s2.drawn) (t' := tk) IA hP old tabC IA.bare
    have nP : ∀ b ∈ fp, b ≠ P := fun b hb z => by
      have := (f2 b hb).1
      rw [z, hP] at this
      cases this
    have lt2 : ∀ b ∈ fp, b < hC.objs.size := fun b hb => by
      obtain ⟨o, e, _⟩ := T.obj _ _ st b hb
      exact Nat.lt_of_lt_of_le (Heap.lt_size e) big
    have f4 : ∀ b ∈ fp, FpOk X pins (upd HA P (.tbl (ps ++ more))) b ∧ b < ({ s2 with heap := hC, toks := tk } : Shared).heap.objs.size := fun b hb => ⟨⟨by rw [upd_ne (nP b hb)]; exact (f2 b hb).1, (f2 b hb).2⟩, lt2 b hb⟩
    have st4 : tn 0 hC := T.keep _ _ _ st fun b hb o e => old b o (nP b hb) e
    have hsz : h'.objs.size = hC.objs.size + 1 := by rw [hs'.1, Heap.size_push]
    show Q' (.ref h'.objs.size) { s2 with
            gens := s2.gens.push (.fresh (.compStart (.GeneratorExp elt [⟨tg, iter, ifs, 0⟩] scope gpos) 0 (.ref it) .none (genEnv scope (cloFrom X.env.cells scope.names []) hC.objs.size code builtinsNs X.env))),
            toks := tk + 1 + 1 + 1,
            heap := h'.push ({ cls := .type "generator", data := .fields #[.int s2.gens.size 0, .str "<genexpr>" (tk + 1), .str (X.env.qual ++ "<genexpr>") (tk + 1 + 1)] } : Obj) }
    generalize hgo : ({ cls := .type "generator", data := .fields #[.int s2.gens.size 0, .str "<genexpr>" (tk + 1), .str (X.env.qual ++ "<genexpr>") (tk + 1 + 1)] } : Obj) = gobj
    have keep5 : ∀ b o, hC.get? b = some o → (h'.push gobj).get? b = some o := fun b o e => Heap.get?_push_of_some _ (hs'.extBut b o (Nat.ne_of_lt (Heap.lt_size e)) (Heap.get?_push_of_some _ e))
    generalize hce : genEnv scope (cloFrom X.env.cells scope.names []) hC.objs.size code builtinsNs X.env = ce
    generalize hs5 : ({ s2 with gens := s2.gens.push (.fresh (.compStart (.GeneratorExp elt [⟨tg, iter, ifs, 0⟩] scope gpos) 0 (.ref it) .none ce)), toks := tk + 1 + 1 + 1, heap := h'.push gobj } : Shared) = s5
    have h5 : s5.heap = h'.push gobj := by rw [← hs5]
    have g5 : s5.gens = s2.gens.push (.fresh (.compStart (.GeneratorExp elt [⟨tg, iter, ifs, 0⟩] scope gpos) 0 (.ref it) .none ce)) := by rw [← hs5]
    have o5 : s5.os = s2.os := by rw [← hs5]
    have gat : s5.heap.get? h'.objs.size = some gobj := by rw [h5]; exact Heap.get?_push_size _ (by rw [← hgo]; rfl)
    have isg : ∀ h : Heap, h.get? h'.objs.size = some gobj → h.IsGen h'.objs.size s2.gens.size := fun h e => ⟨gobj, _, _, e, by rw [← hgo], by rw [← hgo], by rw [← hgo]⟩
    have b5' : AllBare s5.gens := by rw [g5]; exact IA.bare.push rfl
    have hsc : ce.scope = scope := by rw [← hce]; rfl
    have I5 : Inv (gxc X (gxN own fr) { s2 with heap := hC, toks := tk } (upd HA P (.tbl (ps ++ more))) ce fp [(h'.objs.size, gobj)]) [] (gxσ own fr σ) (upd HA P (.tbl (ps ++ more))) (s5.setGen s2.gens.size .running) := by
      rw [← hce]
      refine gx_start S hc I4 f4 o5 (allBare_setGen b5' rfl) (fun b o e => by show s5.heap.get? b = some o; rw [h5]; exact keep5 b o e) ⟨_, by show s5.heap.Ns _ _; rw [h5]; exact hn'.push _⟩ fun p hp => ?_
      rw [List.mem_singleton.mp hp]
      exact ⟨gat, by show hC.objs.size < h'.objs.size; omega, fun v z => by rw [← hgo] at z; cases z⟩
    have hgs : s5.gens[s2.gens.size]? = some (.fresh (.compStart (.GeneratorExp elt [⟨tg, iter, ifs, 0⟩] scope gpos) 0 (.ref it) .none ce)) := by rw [g5]; exact Array.getElem?_push_size ..
    obtain ⟨W, ⟨m, w0⟩, turn⟩ := q (upd HA P (.tbl (ps ++ more))) ⟨⟨ps ++ more, upd_same, okC⟩, fun b n => upd_ne n⟩
    refine hQ _ _ ⟨s2.gens.size, GxF (gxc X (gxN own fr) { s2 with heap := hC, toks := tk } (upd HA P (.tbl (ps ++ more))) ce fp [(h'.objs.size, gobj)]) (fun b H => Q (.bl b) H), m + 1, isg _ gat, I5.nolimit, ⟨_, hgs, rfl, ?_⟩, ?_, ?_, ?_, ?_⟩
    · refine seg_gxStart (Xg := gxc X (gxN own fr) { s2 with heap := hC, toks := tk } (upd HA P (.tbl (ps ++ more))) ce fp [(h'.objs.size, gobj)]) rfl hc (by show ce.scope.isCoroutine = false; rw [hsc]; exact S.co) rfl rfl T (hce ▸ hg _ _ _ _ _ _) (hce ▸ ht _ _ _ _ _ _) (hce ▸ he _ _ _ _ _ _)
        (fun b hb p hp => ?_) (fun pins' σ' H' s' I' => isg _ (I'.pin (h'.objs.size, gobj) (List.mem_append_left _ (List.mem_singleton.mpr rfl))).1) turn (Nat.lt_succ_self m) I5 (T.keep _ _ _ st4 fun b hb o e => by show s5.heap.get? b = some o; rw [h5]; exact keep5 b o e) (fun b hb => (f4 b hb).1.1) w0
      rw [List.mem_singleton.mp hp]
      have hlt : hC.objs.size < h'.objs.size := by omega
      exact Nat.ne_of_gt (Nat.lt_trans (lt2 b hb) hlt)
    · rintro b s' G ⟨σ', H', I', qq⟩ hG
      exact ⟨σ', H', Inv.gens' I' hG, qq⟩
    · rintro b s' h2 ⟨σ', H', I', qq⟩ hk
      exact ⟨σ', H', I'.kept (t' := s'.toks) hk, qq⟩
    · rintro b s' ⟨σ', H', I', qq⟩
      exact I'.bare
    · rintro b s' ⟨σ', H', I', qq⟩
      exact ⟨.bl b, H', I4.call' (ch := fp) I'.os I'.base I'.hok I'.bare fun b hb => ⟨(f4 b hb).1.2.2.2.1, (f4 b hb).1.2.1, (f4 b hb).1.2.2.2.2.1, (f4 b hb).1.2.2.2.2.2⟩, rfl, qq⟩
  cases ec : codeAmong gpos ps.toList with
  | some cv =>
    refine wpAny_genexprCode_hit hcode (hd.code atP okP) ec ?_
    exact go cv s2.heap s2.toks #[] (Heap.ExtBut.refl _ _) (Nat.le_refl _) (by rw [Array.append_empty]; exact atP) (by rw [Array.append_empty]; exact okP)
  | none =>
    refine wpAny_genexprCodeX hcode (hd.code atP okP) (hd.tab atP) ec fun c' hC tk ext ge lt co _ tab _ => ?_
    obtain ⟨_, _, _, _, _, _, _, _, _, _, _, _, _, _, _, _, _, _, _, okC, _⟩ := co
    exact go _ hC tk _ ext (Nat.le_trans ge (Nat.le_of_lt lt)) tab.2 okC
/-- all(elt for tg in iter if ..) -/
theorem pe_gxAll (hr : Room k X.A) (hgl : Gl X "all") (hm : X.mg "all" = none) (hb : bootBuiltins "all" = some (.builtin "all")) (TB : GxR.TabB X.base X.mg c P) (hcode : X.env.code = .ref c) (S : GxS X.N X.env.scope scope own fr) (hc : X.calm = true) (hi : PI X tg iter wi) (hs : ∀ v, genFold iter X.env v = pure v)
    (hg : ∀ s H C code fp pn, PG (gxc X (gxN own fr) s H (gxE X scope C code) fp pn) tg g) (ht : ∀ s H C code fp pn, PTs (gxc X (gxN own fr) s H (gxE X scope C code) fp pn) ifs tt) (he : ∀ s H C code fp pn, PE (gxc X (gxN own fr) s H (gxE X scope C code) fp pn) elt te)
    (hst : starEach [.GeneratorExp elt [⟨tg, iter, ifs, 0⟩] scope gpos] X.env = (false, eval (.GeneratorExp elt [⟨tg, iter, ifs, 0⟩] scope gpos) X.env) :: starEach [] X.env := by rfl) :
    PE X (.Call (.Name "all" p) [.GeneratorExp elt [⟨tg, iter, ifs, 0⟩] scope gpos] [] pos) (tGx P false wi g tt te own fr) := by
  refine ⟨fun pins s σ H Q I h => ?_⟩
  refine wpAny_Call_Name_kw (ld_blt I hgl hm hb ?_)
  refine PyProof.Rows.callWith_builtin1 ?_ hst (by rfl)
  rw [hst]
  show wpAny _ _ (spliced ((false, eval (.GeneratorExp elt [⟨tg, iter, ifs, 0⟩] scope gpos) X.env) :: backTo pos (starEach [] X.env))) _ _ s
  refine Calls.spliced_cons (gx_over hr TB hcode S hc hi hs hg ht he I h fun a s5 ⟨gn, F, n, r1, r2, r3, r4, r5, r6, r7⟩ => ?_)
  refine Calls.spliced_nil ?_
  refine call_function_tree PySem.F.kind_all PySem.F.plain_all PySem.F.entry_all (PySem.F.args_all1 _) ?_
  unfold Builtin.«all»
  refine wpAny_bind (m := oneArg "all" _) (wpAny_pure ?_)
  refine wpAny_bind (wpAny_pyIter_gen r1 ?_)
  exact wpAny_pure ⟨plainId_quiet PySem.F.plain_all_loop _, loop_all hr.hd hr.depth r4 r5 r6 r7 n s5 r1 r2 r3⟩
/-- any(elt for tg in iter if ..) -/
theorem pe_gxAny (hr : Room k X.A) (hgl : Gl X "any") (hm : X.mg "any" = none) (TB : GxR.TabB X.base X.mg c P) (hcode : X.env.code = .ref c) (S : GxS X.N X.env.scope scope own fr) (hc : X.calm = true) (hi : PI X tg iter wi) (hs : ∀ v, genFold iter X.env v = pure v)
    (hg : ∀ s H C code fp pn, PG (gxc X (gxN own fr) s H (gxE X scope C code) fp pn) tg g) (ht : ∀ s H C code fp pn, PTs (gxc X (gxN own fr) s H (gxE X scope C code) fp pn) ifs tt) (he : ∀ s H C code fp pn, PE (gxc X (gxN own fr) s H (gxE X scope C code) fp pn) elt te)
    (hst : starEach [.GeneratorExp elt [⟨tg, iter, ifs, 0⟩] scope gpos] X.env = (false, eval (.GeneratorExp elt [⟨tg, iter, ifs, 0⟩] scope gpos) X.env) :: starEach [] X.env := by rfl) :
    PE X (.Call (.Name "any" p) [.GeneratorExp elt [⟨tg, iter, ifs, 0⟩] scope gpos] [] pos) (tGx P true wi g tt te own fr) := by
  refine ⟨fun pins s σ H Q I h => ?_⟩
  refine wpAny_Call_Name_kw (ld_blt I hgl hm boot_any ?_)
  refine PyProof.Rows.callWith_builtin1 ?_ hst (by rfl)
  rw [hst]
  show wpAny _ _ (spliced ((false, eval (.GeneratorExp elt [⟨tg, iter, ifs, 0⟩] scope gpos) X.env) :: backTo pos (starEach [] X.env))) _ _ s
  refine Calls.spliced_cons (gx_over hr TB hcode S hc hi hs hg ht he I h fun a s5 ⟨gn, F, n, r1, r2, r3, r4, r5, r6, r7⟩ => ?_)
  refine Calls.spliced_nil ?_
  refine call_function_tree PySem.F.kind_any PySem.F.plain_any PySem.F.entry_any (PySem.F.args_any1 _) ?_
  unfold Builtin.«any»
  refine wpAny_bind (m := oneArg "any" _) (wpAny_pure ?_)
  refine wpAny_bind (wpAny_pyIter_gen r1 ?_)
  exact wpAny_pure ⟨plainId_quiet PySem.F.plain_any_loop _, loop_any hr.hd hr.depth r4 r5 r6 r7 n s5 r1 r2 r3⟩
theorem room_gx {NG : List Str} {s : Shared} {H : Hp} {cenv : Env} {fp : List Addr} {pn : List (Addr × Obj)} (hr : Room (k + 3) X.A) : Room k (gxc X NG s H cenv fp pn).A := hr.in1.in1.deeper _
def gxC (N : List Str) (sc scope : Scope) (own : List Str) (fr : List (Str × Nat)) : Bool :=
  (match scope.kind with | .function => true | _ => false) && !scope.isCoroutine && (scope.names.all fun y => match y.2 with | .cell => false | _ => true) && (match scope.names.lookup (".0" : Str) with | some .local => true | _ => false) &&
    (own.all fun x => match scope.names.lookup x with | some .local => true | _ => false) && (fr.all fun p => (match scope.names.lookup p.1 with | some .free => true | _ => false) && decide (N[p.2]? = some p.1)) &&
    (scope.names.all fun y => match y.2 with | .free => (match sc.names.lookup y.1 with | some .cell => true | some .free => true | _ => false) | _ => true) && (scope.names.all fun y => decide (scope.names.lookup y.1 = some y.2))
theorem gxS_by {N : List Str} {sc scope : Scope} {own : List Str} {fr : List (Str × Nat)} (h : gxC N sc scope own fr = true) : GxS N sc scope own fr := by
  unfold gxC at h
  simp only [Bool.and_eq_true, List.all_eq_true, decide_eq_true_eq, Bool.not_eq_true'] at h
  obtain ⟨⟨⟨⟨⟨⟨⟨h1, h2⟩, h3⟩, h4⟩, h5⟩, h6⟩, h7⟩, h8⟩ := h
  refine ⟨?_, h2, fun y hy e => ?_, ?_, fun x hx => ?_, fun p hp => ⟨?_, (h6 p hp).2⟩, fun y hy e => ?_, h8⟩
  · split at h1
    · assumption
    · cases h1
  · have := h3 y hy
    rw [e] at this
    cases this
  · split at h4
    · assumption
    · cases h4
  · have := h5 x hx
    split at this
    · assumption
    · cases this
  · have := (h6 p hp).1
    split at this
    · assumption
    · cases this
  · have := h7 y hy
    rw [e] at this
    dsimp only at this
    split at this
    · exact .inl ‹_›
    · exact .inr ‹_›
    · cases this
end
end Cs
set_option maxHeartbeats 4000000
namespace Cs
open PySem PySem.Spec PyProof.Rows L2
/-! ### any, all of a generator expression, by kinds -/
/-- the table of a def's code: it grows -/
def cTab : CF := ⟨fun _ o => ∃ ps : Array Value, o = .tbl ps ∧ TriplesOk ps.toList, fun _ h => h⟩
abbrev tab (P : Addr) : RS := cell P cTab
theorem Ok.tabG {W : Wd} {σ : L2.St} {H : Hp} {P : Addr} (o : Ok W σ H) (h : tab P ∈ W.L) : GxR.TabG H P := by
  obtain ⟨ob, h1, ps, h2, h3⟩ := o.at_ _ h
  exact ⟨ps, by rw [h1, h2], h3⟩
theorem Ok.tabbed {W : Wd} {σ : L2.St} {H H' : Hp} {P : Addr} (o : Ok W σ H) (h : tab P ∈ W.L) (z : GxR.Tabbed P H H') : Go1 W σ H H' := by
  obtain ⟨⟨ps, h1, h2⟩, h3⟩ := z
  have e : fps [tab P] = [P] := rfl
  refine o.after (C := [tab P]) (fun r m => by rw [List.mem_singleton.mp m]; exact h) (fun b ob n q => ?_) (fun a m => ?_) (fun r m => ?_)
  · rw [e] at n
    rw [h3 b (fun z => n (by rw [z]; exact List.mem_singleton.mpr rfl))]
    exact q
  · rw [e] at m
    rw [List.mem_singleton.mp m, h1]
    exact fun z => by cases z
  · rw [List.mem_singleton.mp m]
    exact ⟨_, h1, ps, rfl, h2⟩
theorem wipe_none {σ : L2.St} : ∀ {vs : List Nat}, (∀ v ∈ vs, σ[v]? = some none) → wipe σ vs = σ
  | [], _ => rfl
  | v :: vs, h => by
    unfold wipe
    rw [wipe_none fun w m => h w (List.mem_cons_of_mem _ m)]
    have l := h v (List.mem_cons_self ..)
    apply List.ext_getElem?
    intro j
    rw [List.getElem?_set]
    by_cases e : v = j
    · subst e
      rw [if_pos rfl, l, if_pos (List.getElem?_eq_some_iff.mp l).1]
    · rw [if_neg e]
theorem wipe_gxσ {own : List Str} {fr : List (Str × Nat)} {σ : L2.St} : wipe (gxσ own fr σ) (List.range own.length) = gxσ own fr σ := wipe_none fun v m => by
  have l := List.mem_range.mp m
  unfold gxσ
  rw [List.getElem?_append_left (by simpa using l), List.getElem?_map, List.getElem?_eq_getElem l]
  rfl
def gxW (W : Wd) (F : List FF) (own : List Str) (capG : List (Option SF)) : Wd := ⟨W.H0, W.M, W.S, W.L, F, own.map (fun _ => none) ++ capG⟩
/-- what is known of the captured names -/
def CapOk (G : List (Option SF)) (fr : List (Str × Nat)) (capG : List (Option SF)) : Prop := capG.length = fr.length ∧ ∀ (j : Nat) (f : SF), capG[j]? = some (some f) → ∃ p, fr[j]? = some p ∧ G[p.2]? = some (some f)
theorem Ok.gx {W : Wd} {σ : L2.St} {H : Hp} {own : List Str} {fr : List (Str × Nat)} {capG : List (Option SF)} (o : Ok W σ H) (c : CapOk W.G fr capG) : Ok (gxW W W.F own capG) (gxσ own fr σ) H :=
  ⟨o.nod, o.own, o.at_, o.ms, o.al, o.bt, by show (gxσ own fr σ).length = (own.map (fun _ => Option.none) ++ capG).length; simp [gxσ, c.1], o.facts, fun i f q => by
    have q : (own.map (fun _ => (Option.none : Option SF)) ++ capG)[i]? = some (some f) := q
    by_cases l : i < own.length
    · rw [List.getElem?_append_left (by simpa using l), List.getElem?_map, List.getElem?_eq_getElem l] at q
      cases q
    · rw [List.getElem?_append_right (by simpa using Nat.le_of_not_lt l), List.length_map] at q
      obtain ⟨p, h1, h2⟩ := c.2 _ f q
      obtain ⟨v, h3, h4⟩ := o.slots p.2 f h2
      refine ⟨v, ?_, h4⟩
      unfold gxσ
      rw [List.getElem?_append_right (by simpa using Nat.le_of_not_lt l), List.length_map, List.getElem?_map, h1]
      show some ((σ[p.2]?).getD Option.none) = some (some v)
      rw [h3]; rfl⟩
theorem gx_it {J : It} {n : Nat} {G : Hp → Prop} {Y : Nat → Hp → V → Hp → Prop} (w : Walk J n G Y) {g : TG} {tt : TT} {te : TE} {sv : Bool} {σ0 : L2.St} {own : List Nat} {Qe : Bool → Hp → Prop} (Pv : Nat → Hp → Prop) (hG : ∀ i H, i ≤ n → Pv i H → G H)
    (hs : ∀ i x H H', i < n → Pv i H → Y i H x H' → g x σ0 H' fun σ2 H2 => wipe σ2 own = σ0 ∧ tt σ2 H2 fun b H3 => if b = true then te σ2 H3 fun y H4 => ∃ c, y = .bl c ∧ (if c = sv then Qe sv H4 else Pv (i + 1) H4) else Pv (i + 1) H3) (hd : ∀ H, Pv n H → Qe (!sv) H) :
    GxTurn J g tt te sv σ0 own Qe (fun i m H => m = n - i ∧ i ≤ n ∧ Pv i H) := by
  rintro i m H ⟨rfl, hi, p⟩
  have q := hG i H hi p
  by_cases l : i < n
  · exact .inr ⟨w.goes i H l q, Pv (i + 1), fun H' p' => ⟨n - (i + 1), by omega, rfl, l, p'⟩, fun x H' y => hs i x H H' l p (w.yields i H x H' l q y)⟩
  · obtain rfl : i = n := by omega
    exact .inl ⟨w.stops H q, hd H p⟩
section
variable {α β : Type} {W : Wd} {K : PySem.W.Frag} {te : TE} {t : Ty α} {tt : TT} {g : TG} {as : α → List (Nat × SF)} {wi : TI} {P : Addr} {own : List Str} {fr : List (Str × Nat)} {capG : List (Option SF)} {sv : Bool}
theorem ev_gx {xs : List α} {p f : α → Bool} (hP : tab P ∈ W.L) (h : Iv W wi t xs) (tg : Tgt g t as) (hi : ∀ x, ∀ q ∈ as x, q.1 ∈ List.range own.length) (hc : CapOk W.G fr capG)
    (ht : ∀ F x, (∀ q ∈ W.F, q ∈ F) → x ∈ xs → Et ((gxW W F own capG).puts (as x)) tt (p x)) (he : ∀ F x, (∀ q ∈ W.F, q ∈ F) → x ∈ xs → p x = true → Ev ((gxW W F own capG).puts (as x)) te tBl (f x))
    (hp : ∀ (W : Wd) x, (W.puts (as x)).H0 = W.H0 ∧ (W.puts (as x)).M = W.M ∧ (W.puts (as x)).S = W.S ∧ (W.puts (as x)).L = W.L ∧ (W.puts (as x)).F = W.F := by intros; exact ⟨rfl, rfl, rfl, rfl, rfl⟩) :
    Ev W (tGx P sv wi g tt te own fr) tBl (if xs.any (fun x => p x && (f x == sv)) = true then sv else !sv) := fun σ H o Q q => by
  refine h σ H o _ fun J H1 f0 g1 fp wk => ?_
  refine ⟨g1.ok.tabG hP, fun H2 z => ?_⟩
  have g2 := g1.trans (g1.ok.tabbed hP z)
  have fp2 := f0.mono (g1.ok.tabbed hP z).up fp
  obtain ⟨Y, wY, hY⟩ := wk.ex
  let Wk : Wd := ⟨W.H0, W.M, W.S, W.L, f0 :: ffS (hid W.S H) :: W.F, W.G⟩
  have o0 : Ok Wk σ H2 := Ok.know (Ok.know g2.ok (f := ffS (hid W.S H)) g2.up) (f := f0) fp2
  have ff : ∀ H, Ok Wk σ H → f0.p (hid W.S H) := fun H o => o.facts f0 (List.mem_cons_self ..)
  have back : ∀ H', Ok Wk σ H' → Go1 W σ H H' := fun H' o' => ⟨⟨o'.nod, o'.own, o'.at_, o'.ms, o'.al, o'.bt, o'.len, fun q m => o'.facts q (List.mem_cons_of_mem _ (List.mem_cons_of_mem _ m)), o'.slots⟩, o'.facts (ffS (hid W.S H)) (List.mem_cons_of_mem _ (List.mem_cons_self ..))⟩
  have st0 : (xs.take 0).any (fun x => p x && (f x == sv)) = false ∧ Ok Wk σ H2 := ⟨by simp, o0⟩
  refine ⟨_, ⟨xs.length, by rw [Nat.sub_zero], Nat.zero_le _, st0⟩, gx_it wY (fun k H' => (xs.take k).any (fun x => p x && (f x == sv)) = false ∧ Ok Wk σ H') (fun k H' _ o' => ⟨_, ff H' o'.2⟩) ?_ ?_⟩
  · rintro k v H0' H' hk ⟨pre, o'⟩ y
    obtain ⟨e, x, hx, rx⟩ := hY k H0' v H' _ hk (ff H0' o') o'.al y
    have o' := o'.same e
    have xm := List.mem_of_getElem? hx
    have sub : ∀ q ∈ W.F, q ∈ f0 :: ffS (hid W.S H) :: W.F := fun q m => List.mem_cons_of_mem _ (List.mem_cons_of_mem _ m)
    have oi : Ok (gxW W (f0 :: ffS (hid W.S H) :: W.F) own capG) (gxσ own fr σ) H' := Ok.gx (W := Wk) o' hc
    refine tg _ _ H' v x oi rx _ fun σ' oe ew => ?_
    refine ⟨by rw [ew (List.range own.length) (hi x), wipe_gxσ], ?_⟩
    have ret : ∀ H2, Go1 ((gxW W (f0 :: ffS (hid W.S H) :: W.F) own capG).puts (as x)) σ' H' H2 → Ok Wk σ H2 := fun H2 g2 => by
      obtain ⟨p1, p2, p3, p4, p5⟩ := hp (gxW W (f0 :: ffS (hid W.S H) :: W.F) own capG) x
      have o2 := g2.ok
      have up := g2.up
      rw [p3] at up
      have o3 : Ok { Wk with G := ((gxW W (f0 :: ffS (hid W.S H) :: W.F) own capG).puts (as x)).G } σ' H2 := by
        have : ((gxW W (f0 :: ffS (hid W.S H) :: W.F) own capG).puts (as x)) = { Wk with G := ((gxW W (f0 :: ffS (hid W.S H) :: W.F) own capG).puts (as x)).G } := by
          generalize ((gxW W (f0 :: ffS (hid W.S H) :: W.F) own capG).puts (as x)) = Z at p1 p2 p3 p4 p5 ⊢
          cases Z
          cases p1; cases p2; cases p3; cases p4; cases p5
          rfl
        rw [← this]
        exact o2
      exact Ok.swap (W := Wk) o' o3 up
    have tk : xs.take (k + 1) = xs.take k ++ [x] := take_snoc hx
    refine ht _ x sub xm _ _ oe _ fun H2 g2 => ?_
    cases hpx : p x with
    | false =>
      refine iteF ⟨?_, ret H2 g2⟩
      rw [tk, List.any_append, pre]
      simp [hpx]
    | true =>
      refine iteT ?_
      refine he _ x sub xm hpx _ _ g2.ok _ fun w H3 g3 rw' => ?_
      have o3 := ret H3 (g2.trans g3)
      refine ⟨f x, rw', ?_⟩
      by_cases hf : f x = sv
      · rw [if_pos hf]
        have any1 : xs.any (fun x => p x && (f x == sv)) = true := List.any_eq_true.mpr ⟨x, xm, by simp [hpx, hf]⟩
        rw [if_pos any1] at q
        exact q _ _ (back H3 o3) rfl
      · rw [if_neg hf]
        refine ⟨?_, o3⟩
        rw [tk, List.any_append, pre]
        simp [hpx, hf]
  · rintro H' ⟨pre, o'⟩
    rw [List.take_length] at pre
    rw [if_neg (by rw [pre]; exact Bool.false_ne_true)] at q
    exact q _ _ (back H' o') rfl
theorem any_res {xs : List α} {p f : α → Bool} : (if xs.any (fun x => p x && (f x == true)) = true then true else !true) = xs.any (fun x => p x && f x) := by
  simp only [beq_true]
  cases xs.any (fun x => p x && f x) <;> rfl
theorem all_res {xs : List α} {f : α → Bool} : (if xs.any (fun x => true && (f x == false)) = true then false else !false) = xs.all f := by
  induction xs with
  | nil => rfl
  | cons x xs ih =>
    rw [List.any_cons, List.all_cons, ← ih]
    cases f x <;> simp
/-- all(e for .. in ..) -/
theorem ev_gxAll {xs : List α} {f : α → Bool} (hP : tab P ∈ W.L) (h : Iv W wi t xs) (tg : Tgt g t as) (hi : ∀ x, ∀ q ∈ as x, q.1 ∈ List.range own.length) (hc : CapOk W.G fr capG)
    (he : ∀ F x, (∀ q ∈ W.F, q ∈ F) → x ∈ xs → Ev ((gxW W F own capG).puts (as x)) te tBl (f x))
    (hp : ∀ (W : Wd) x, (W.puts (as x)).H0 = W.H0 ∧ (W.puts (as x)).M = W.M ∧ (W.puts (as x)).S = W.S ∧ (W.puts (as x)).L = W.L ∧ (W.puts (as x)).F = W.F := by intros; exact ⟨rfl, rfl, rfl, rfl, rfl⟩) :
    Ev W (tGx P false wi g tYes te own fr) tBl (xs.all f) := ev_is (ev_gx (p := fun _ => true) hP h tg hi hc (fun _ _ _ _ => et_yes) (fun F x hF hx _ => he F x hF hx) hp) all_res
/-- any(e for .. in ..) -/
theorem ev_gxAny {xs : List α} {f : α → Bool} (hP : tab P ∈ W.L) (h : Iv W wi t xs) (tg : Tgt g t as) (hi : ∀ x, ∀ q ∈ as x, q.1 ∈ List.range own.length) (hc : CapOk W.G fr capG)
    (he : ∀ F x, (∀ q ∈ W.F, q ∈ F) → x ∈ xs → Ev ((gxW W F own capG).puts (as x)) te tBl (f x))
    (hp : ∀ (W : Wd) x, (W.puts (as x)).H0 = W.H0 ∧ (W.puts (as x)).M = W.M ∧ (W.puts (as x)).S = W.S ∧ (W.puts (as x)).L = W.L ∧ (W.puts (as x)).F = W.F := by intros; exact ⟨rfl, rfl, rfl, rfl, rfl⟩) :
    Ev W (tGx P true wi g tYes te own fr) tBl (xs.any f) := ev_is (ev_gx (p := fun _ => true) hP h tg hi hc (fun _ _ _ _ => et_yes) (fun F x hF hx _ => he F x hF hx) hp) (by rw [any_res]; simp)
end
end Cs
set_option maxHeartbeats 4000000
namespace Cs
open PySem PySem.Spec PyProof.Rows L2
/-! ### texts, by kinds -/
section
variable {α β γ : Type} {W : Wd} {K : PySem.W.Frag} {ta tb tc to : TE} {t : Ty α} {x : α} {z z' sep : Str} {i j : Int} {xs : List Str} {tl th : TO} {lo hi : Option Int}
/-- parts of a slice -/
def Eo (W : Wd) (tl : TO) (lo : Option Int) : Prop := ∀ σ H, Ok W σ H → ∀ Q : Option Int → Hp → Prop, (∀ H', Go1 W σ H H' → Q lo H') → tl σ H Q
theorem eo_none : Eo W tNoPart none := fun σ H o Q q => q H (Go1.refl o)
theorem eo_some (h : Ev W ta tInt i) : Eo W (tPart ta) (some i) := fun σ H o Q q => h σ H o _ fun v H1 g1 r1 => ⟨i, r1, q H1 g1⟩
theorem all2_cut {r : V → α → Prop} {vs : List V} {xs : List α} (h : All2 r vs xs) (lo hi : Option Int) : All2 r (cutV vs lo hi) ((xs.drop (HT.sIx xs.length 0 lo)).take (HT.sIx xs.length xs.length hi - HT.sIx xs.length 0 lo)) := by
  unfold cutV
  rw [h.length]
  exact (h.drop _).take _
/-- xs[lo:hi] -/
def cutL (xs : List α) (lo hi : Option Int) : List α := (xs.drop (HT.sIx xs.length 0 lo)).take (HT.sIx xs.length xs.length hi - HT.sIx xs.length 0 lo)
theorem ev_sliceL {xs : List α} (ha : Ev W ta (tLs K t) xs) (hl : Eo W tl lo) (hh : Eo W th hi) : Ev W (tSl (rSlL K) ta tl th) (tLs K t) (cutL xs lo hi) := fun σ H o Q q =>
  ha σ H o _ fun v H1 g1 r1 => hl σ H1 g1.ok _ fun H2 g2 => hh σ H2 g2.ok _ fun H3 g3 => by
    obtain ⟨p, vs, rfl, s, al⟩ := (tLs K t).mono (g2.trans g3).up r1
    exact ⟨p, vs, rfl, SqL.of (hid_sub _ _ s), fun l nl => q _ _ (((g1.trans g2).trans g3).trans (g3.ok.new nl)) ⟨l, _, rfl, (by rw [hid_of (g3.ok.off nl)]; exact upd_same), All2.mono (fun _ _ => t.mono (g3.ok.new nl).up) (all2_cut al lo hi)⟩⟩
theorem cutL_to {xs : List α} {n : Nat} : cutL xs none (some (n : Int)) = xs.take n := by
  unfold cutL HT.sIx
  simp only [List.drop_zero, Nat.sub_zero]
  rw [if_neg (by omega)]
  rcases Nat.le_total (n : Int).toNat xs.length with z | z
  · rw [Nat.min_eq_left z, Int.toNat_natCast]
  · rw [Nat.min_eq_right z, List.take_length, List.take_of_length_le (by simpa using z)]
theorem cutL_from {xs : List α} {n : Nat} : cutL xs (some (n : Int)) none = xs.drop n := by
  unfold cutL HT.sIx
  dsimp only
  rw [if_neg (by omega), Int.toNat_natCast]
  rcases Nat.le_total n xs.length with z | z
  · rw [Nat.min_eq_left z, List.take_of_length_le (by rw [List.length_drop]; exact Nat.le_refl _)]
  · rw [Nat.min_eq_right z, List.drop_length, List.drop_of_length_le z, List.take_nil]
end
end Cs
namespace Cs
open PySem PySem.Spec PyProof.Rows L2
theorem cap0 {G : List (Option SF)} : CapOk G [] [] := ⟨rfl, fun j f q => by simp at q⟩
theorem cap1 {G : List (Option SF)} {n : Str} {k : Nat} {f : SF} (h : G[k]? = some (some f)) : CapOk G [(n, k)] [some f] := ⟨rfl, fun j g q => by
  match j, q with
  | 0, q => obtain rfl : f = g := by simpa using q
            exact ⟨_, rfl, h⟩
  | j + 1, q => simp at q⟩
end Cs
set_option maxHeartbeats 4000000
namespace Cs
open PySem PySem.Spec PyProof.Rows L2
/-! ### defs whose code object is told -/
section
variable {P : Program} {w : World} {K : PySem.W.Frag} {mg : Str → Option Value} {base : Heap} {α β : Type}
theorem fun_okC {CX : CXT} {x qual : Str} {st : Stmt} {f c : Addr} {fd : FuncData} {N ps : List Str} {k : Nat} {sp : Sp} (F : Fun K x qual st f fd) (hc : fd.code = .ref c) (S : FnScope N ps (defScope st)) (len : ∀ vs H Q E, sp vs H Q E → vs.length = ps.length)
    (hbody : ∀ (A : Around) (outer : List Env) (s : Shared) (H : Hp) (vs : List V) (Q : VK) (E : XK), Room k (A.deeper (envOfC qual (defScope st) s.heap.objs.size f (.ref c))) → sp vs H Q E →
      ∃ t, PSs (cxOf CX P w K mg base N qual (defScope st) f (.ref c) A outer s H E) (defBody st) t ∧ t { nx := fun _ H' => Q .non H', rt := Q } (L2.start N vs) H) : FnOk P w K mg base CX (k + 1) f fd ps sp := by
  obtain ⟨oc, od, kV, doc, pm, an, cdv, ct, osl, rfl, lk, hcd⟩ := F.ex
  obtain rfl : cdv = .ref c := hc
  exact fn_of lk hcd S len hbody
theorem start_ok {N ps : List Str} {C : List RS} {A : List SF} {S : List Addr} {H : Hp} {vs : List V} (al : ∀ a ∈ S, H a ≠ none) (nd : (fps C).Nodup) (sub : ∀ a, a ∈ fps C → a ∈ S) (cc : RsAt C S H) (ft : Fits (hid S H) A vs) (hl : A.length = ps.length) : Ok ⟨H, fps C, S, C, [], A.map some ++ List.replicate (N.length - ps.length) none⟩ (L2.start N vs) H := by
  refine ⟨nd, fun a m => ⟨sub a m, .inl m⟩, cc, sub, al, Bt.refl, ?_, (fun f m => nomatch m), fun i f' q => start_slots (by rw [ft.length, hl]) ft q⟩
  have e1 := ft.length
  show (L2.start N vs).length = _
  unfold L2.start
  simp only [List.length_append, List.length_map, List.length_replicate]
  omega
/-- what the written part has of a def, its code object told -/
def FunGC (K : PySem.W.Frag) (mg : Str → Option Value) (x : Str) (st : Stmt) (ps : List Str) (c : Addr) : Prop :=
  ∃ (f : Addr) (fd : FuncData), Fun K x x st f fd ∧ fd.code = .ref c ∧ mg x = some (.ref f) ∧ Binds K fd ps []
theorem Cal.ofC {x : Str} {st : Stmt} {ps : List Str} {k : Nat} {sp : Sp} {c : Addr} (F : FunGC K mg x st ps c) (h : ∀ {f : Addr} {fd : FuncData}, Fun K x x st f fd → fd.code = .ref c → FnOk P w K mg base CX0 k f fd ps sp) : Cal P w K mg base k x ps sp := by
  obtain ⟨f, fd, F, hc, g, b⟩ := F
  exact ⟨f, fd, h F hc, g, F.kp, b⟩
end
/-! ### the end, with tables -/
def tbOf (K : PySem.W.Frag) (x : Str) : Addr × Addr := (PySem.W.tabIn K x).getD (0, 0)
theorem FunGC.mk {K : PySem.W.Frag} {mg : Str → Option Value} {h : Heap} {x : Str} {st : Stmt} {ps : List Str} {f : Addr} {od an : Option Addr} {sl : Array (Option Value)} {oc kV dc pm cd ct : Value}
    (hb : ∀ (kV doc pm : Value) (an : Option Addr) (cdv ct : Value) (us : List Value), us.length = ps.length → bindArgs (PySem.W.fnOf x x (defArgs st) (defBody st) (defScope st) .none kV doc pm an cdv ct) ⟨us, []⟩ = pure (ps.zip us)) (X : K.In h) (G : h.Ns mainGlobals mg)
    (a : PySem.W.nsIn K mainGlobals x = some (some (.ref f))) (l : K.lookup f = some ⟨oc, od, .func (PySem.W.fnOf x x (defArgs st) (defBody st) (defScope st) .none kV dc pm an cd ct), sl⟩) (c : PySem.W.codeIn K cd x = true) (k : PySem.W.keepIn K (.ref f) = true) (t : cd = .ref (tbOf K x).1) : FunGC K mg x st ps (tbOf K x).1 :=
  have F := fun_mk (st := st) l c k
  ⟨f, _, F, t, PySem.W.mg_of X G a, F.binds hb⟩
/-- what is known of the tables of the defs ts -/
def TabsIn (K : PySem.W.Frag) (p : Program) (ts : List Str) : Prop := ∀ x ∈ ts, ((recsOf p).find? (fun e => e.name == x)).isSome = true ∧ PySem.W.tabIn K x = some (tbOf K x) ∧ K.lookup (tbOf K x).2 = none
theorem walk_ofG {l : PySem.W.OpenLaw} {n k : Nat} {q : Program} {loose : List Str} {XP : (Str → Option Value) → Heap → Prop} {YP : World → Heap → Prop} {d : DefRec} {K : Params → PySem.W.Frag} {CX : World → CXT} {sp : World → Sp} {x : Str} (ts : List Str)
    (hn : l.most = some n) (hn2 : n ≤ sizeLine) (hdf : d.params.defaults = []) (hr : Room k callerA) (hY : ∀ (w : World) (h : Heap), YP w h → (K w.params).In h) (hts : ∀ w : World, TabsIn (K w.params) q ts)
    (F : ∀ (w : World) (mg : Str → Option Value) (fa : Addr) (h : Heap), (K w.params).In h → h.Ns mainGlobals mg → mg d.name = some (.ref fa) →
      ∃ fd : FuncData, (∀ (s : Shared) (u : Value), BindsTo s fd ⟨[u], []⟩ [(x, u)]) ∧
        ∀ base : Heap, (K w.params).In base → base.Ns mainGlobals mg → (∀ y ∈ ts, GxR.TabB base mg (tbOf (K w.params) y).1 (tbOf (K w.params) y).2) → FnOk l.prog w (K w.params) mg base (CX w) k fa fd [x] (sp w))
    (hsp : ∀ (w : World) (H : Hp) (a : Addr) (ns : List Int), ns.length ≤ n → (∀ z ∈ ns, Builtin.Int.intBits z ≤ 1048576) → (∀ y ∈ ts, H (tbOf (K w.params) y).2 = some (.tbl #[])) → SqL (K w.params) H a (ns.map V.int) → sp w [.ref a] H (fun v _ => v = .bl true) fun _ _ _ => False)
    (hCX : ∀ (w : World) (H : Hp) (s : Shared) (e : Value) (s' : Shared), CX w [] H s (fun _ _ _ => False) e s' → False) :
    PySem.W.WalkO q loose XP YP l.row.toRowW d [] (fun f vs => PySem.call f vs) := by
  refine Att.attach_callB hn hdf fun w s₀ s₁ mg mb fa o pm cd doc a vs ns G Y ho hd hcd hmg hobj hints hlen hbits hg => ?_
  have KX := hY w _ Y
  obtain ⟨fd, hb, hF⟩ := F w mg fa _ KX G.T.g hmg
  have tabs : ∀ y ∈ ts, PySem.W.CodeHd s₁.heap (tbOf (K w.params) y).1 (tbOf (K w.params) y).2 ∧ s₁.heap.get? (tbOf (K w.params) y).2 = some { cls := .none, data := .fields #[] } := fun y hy => by
    obtain ⟨h1, h2, _⟩ := hts w y hy
    obtain ⟨r, hr⟩ := Option.isSome_iff_exists.mp h1
    exact PySem.W.tab_of G.T KX hr h2
  refine LamX.law_callTs (cs := ts.map (tbOf (K w.params))) KX G.T.g G.T.b G.T.builtins G.T.nolimit hg (fun p hp => ?_) (fun p hp => ?_) (fun p hp => ?_) G.T.bmain hobj hints (Nat.le_trans hlen hn2) hr (fun base h1 h2 h3 => hF base h1 h2 fun y hy => ?_) hb (fun H hH hS => hsp w H a ns hlen hbits (fun y hy => hH _ (List.mem_map.mpr ⟨y, hy, rfl⟩)) hS) fun H e s' => hCX w H s₁ e s'
  · obtain ⟨y, hy, rfl⟩ := List.mem_map.mp hp
    exact (tabs y hy).2
  · obtain ⟨y, hy, rfl⟩ := List.mem_map.mp hp
    exact (hts w y hy).2.2
  · obtain ⟨y, hy, rfl⟩ := List.mem_map.mp hp
    exact (tabs y hy).1
  · obtain ⟨z1, z2, z3⟩ := h3 _ (List.mem_map.mpr ⟨y, hy, rfl⟩)
    exact ⟨z1, z2, z3⟩
theorem fps_tabs (Ps : List Addr) : fps (Ps.map tab) = Ps := by
  induction Ps with
  | nil => rfl
  | cons p l ih =>
    show [p] ++ fps (l.map tab) = _
    rw [ih]; rfl
/-- the laws' own: the tables of the defs ts -/
abbrev tbsOf (K : PySem.W.Frag) (ts : List Str) : List Addr := ts.map fun y => (tbOf K y).2
end Cs
set_option maxHeartbeats 4000000
namespace Cs
open PySem PySem.Spec PyProof.Rows L2
/-! ### a parameter that is a def is called; what it raises is wished for at the slots -/
section
variable {α : Type} {W : Wd} {K : PySem.W.Frag} {ta tb : TE} {t : Ty α} {z z' : Str} {i : Nat} {D : Ends} {P R : Str → Prop}
theorem go_setx1 {Pa : α → Prop} (h : Evx W ta t Pa) (k : ∀ x, Pa x → ∀ σ H, Ok (W.at i (t.is x)) σ H → D.nx σ H) : Go W (tAsg ta (gName i)) D := fun σ H o => h σ H o _ fun v x H1 p g r => k x p _ _ (g.ok.put r)
end
end Cs
set_option maxHeartbeats 4000000
set_option maxHeartbeats 4000000
namespace Cs
open PySem PySem.Spec PyProof.Rows L2
/-! ### errors whose context is None: raised, let through, caught -/
def CalN (P : Program) (w : World) (K : PySem.W.Frag) (mg : Str → Option Value) (base : Heap) (k : Nat) (x : Str) (ps : List Str) (sp : Sp) : Prop :=
  ∃ (f : Addr) (fd : FuncData), FnOk P w K mg base (L2N.CX P w) k f fd ps sp ∧ mg x = some (.ref f) ∧ PySem.W.keepIn K (.ref f) = true ∧ Binds K fd ps []
def CalH (P : Program) (w : World) (K : PySem.W.Frag) (mg : Str → Option Value) (base : Heap) (k : Nat) (x : Str) (ps : List Str) (sp : Sp) : Prop :=
  ∃ (f : Addr) (fd : FuncData), L2H.FnH P w K mg base CX0 k f fd ps sp ∧ mg x = some (.ref f) ∧ PySem.W.keepIn K (.ref f) = true ∧ Binds K fd ps []
section
variable {P : Program} {w : World} {K : PySem.W.Frag} {mg : Str → Option Value} {base : Heap} {k j : Nat} {x qual : Str} {ps N : List Str} {sp : Sp} {st : Stmt} {f : Addr} {fd : FuncData}
theorem CalN.of (F : FunG K mg x st ps) (h : ∀ {f : Addr} {fd : FuncData}, Fun K x x st f fd → FnOk P w K mg base (L2N.CX P w) k f fd ps sp) : CalN P w K mg base k x ps sp := by
  obtain ⟨f, fd, F, g, b⟩ := F
  exact ⟨f, fd, h F, g, F.kp, b⟩
theorem CalH.of (F : FunG K mg x st ps) (h : ∀ {f : Addr} {fd : FuncData}, Fun K x x st f fd → L2H.FnH P w K mg base CX0 k f fd ps sp) : CalH P w K mg base k x ps sp := by
  obtain ⟨f, fd, F, g, b⟩ := F
  exact ⟨f, fd, h F, g, F.kp, b⟩
end
end Cs
set_option maxHeartbeats 4000000
namespace Cs
open PySem PySem.Spec PyProof.Rows L2
/-! ### data as a kind -/
section
variable {α : Type} {W : Wd} {K : PySem.W.Frag} {ta tb tc : TE} {t : Ty α} {x : α} {d e : PyData} {ds es : List PyData} {n : Nat} {i : Int} {c : String}
theorem ev_neB {b b' : Bool} (ha : Ev W ta tBl b) (hb : Ev W tb tBl b') : Ev W (tOp rNe ta tb) tBl (!decide (b = b')) := fun σ H o Q q =>
  ha σ H o _ fun v H1 g1 r1 => hb σ H1 g1.ok _ fun v2 H2 g2 r2 => by
    obtain rfl : v = .bl b := r1
    obtain rfl : v2 = .bl b' := r2
    exact ⟨rfl, by rw [show decide (V.bl b = V.bl b') = decide (b = b') from decide_eq_decide.mpr ⟨fun z => V.bl.inj z, fun z => congrArg V.bl z⟩]; exact q _ H2 (g1.trans g2) rfl⟩
end
end Cs
set_option maxHeartbeats 4000000
set_option maxHeartbeats 4000000
namespace Cs
open PySem PySem.Spec PyProof.Rows L2
/-! ### fractions as texts -/
def dg (c : Nat) : Bool := decide (48 ≤ c) && decide (c ≤ 57)
/-! without the sign -/
def dv (z : Str) : Int := (NumText.digitsVal z.cps.toList : Nat)
end Cs
set_option maxHeartbeats 4000000
namespace Cs
open PySem PySem.Spec PyProof.Rows L2
/-! ### numbers and texts, by kinds -/
/-! a def called with a list of its arguments -/
def CalSt (P : Program) (w : World) (K : PySem.W.Frag) (mg : Str → Option Value) (base : Heap) (k : Nat) (x : Str) (ps : List Str) (dvs : List V) (sp : Sp) : Prop :=
  ∃ (f : Addr) (fd : FuncData) (ds : List Value), FnOk P w K mg base CX0 k f fd ps sp ∧ mg x = some (.ref f) ∧ PySem.W.keepIn K (.ref f) = true ∧ Binds K fd ps [] ∧ Binds K fd ps ds ∧ Vals dvs ds
theorem CalSt.mono {P : Program} {w : World} {K : PySem.W.Frag} {mg : Str → Option Value} {base : Heap} {x : Str} {ps : List Str} {j k : Nat} {sp : Sp} {dvs : List V} (c : CalSt P w K mg base j x ps dvs sp) (h : j ≤ k) : CalSt P w K mg base k x ps dvs sp := by
  obtain ⟨f, fd, ds, F, g⟩ := c
  exact ⟨f, fd, ds, F.mono h, g⟩
section
variable {α β γ : Type} {W : Wd} {K : PySem.W.Frag} {ta tb tc to : TE} {t : Ty α} {x : α} {z z' sep : Str} {i j : Int} {ns : List Int} {us : TS} {D : Ends}
theorem inV_int {vs : List V} (h : vs = ns.map V.int) : inV (.int i) vs = decide (i ∈ ns) := by
  subst h
  induction ns with
  | nil => rfl
  | cons y ys ih =>
    show (eqV (V.int y) (V.int i) || inV (V.int i) (ys.map V.int)) = _
    rw [ih, Bool.eq_iff_iff, Bool.or_eq_true, decide_eq_true_iff, decide_eq_true_iff, List.mem_cons]
    show (y == i) = true ∨ _ ↔ _
    rw [beq_iff_eq]
    exact ⟨fun h => h.imp (fun e => e.symm) id, fun h => h.imp (fun e => e.symm) id⟩
theorem ev_pow (ha : Ev W ta tInt i) (hb : Ev W tb tInt j) (k : CPow i j) : Ev W (tOp (rI CPow fun i j => .int (i ^ j.toNat)) ta tb) tInt (i ^ j.toNat) := fun σ H o Q q =>
  ha σ H o _ fun v H1 g1 r1 => hb σ H1 g1.ok _ fun v2 H2 g2 r2 => ⟨i, j, r1, r2, k, q _ H2 (g1.trans g2) rfl⟩
/-- a draw below one of several numbers -/
theorem evx_drawKx {P : Int → Prop} {E : XK} {s : Nat} {d l : Addr} {ns : List Int} (hs : W.G[s]? = some (some (tRf.is d))) (hL : cell d (cDk K d l ns) ∈ W.L) (hm : Evx W ta tInt P) (mb : ∀ m, P m → 0 < m ∧ m.natAbs < 2 ^ 8000) :
    Evx W (tCall (spDrawA K) [] E (tCons (tVar s) (tCons ta tNil))) tInt (fun v => ∃ m, P m ∧ 0 ≤ v ∧ v < m) := fun σ H o Q q => by
  obtain ⟨v, h1, rfl⟩ := o.slots s _ hs
  refine ⟨.ref d, h1, ?_⟩
  refine hm σ H o _ fun v m H1 pm g1 r => ?_
  obtain ⟨ob, hob, b, c, e, rfl, hl, ne, b0⟩ := g1.ok.at_ _ hL
  refine ⟨d, m, l, ns, by rw [show v = .int m from r]; rfl, (mb m pm).1, (mb m pm).2, ⟨b, c, e, hob, hid_sub.seq hl, ne, b0⟩, fun w H2 w0 w1 bt ⟨b', c', e', hob', _, _, b0'⟩ => ?_⟩
  have fd : fps [cell d (cDk K d l ns)] = [d] := rfl
  have bt' : Bt (fps [cell d (cDk K d l ns)]) H1 H2 := fun a o n h => bt a o (fun z => n (by rw [fd, z]; exact List.mem_cons_self ..)) h
  have hd : d ∈ W.S := (g1.ok.own d (mem_fps hL (List.mem_cons_self ..))).1
  have up : Same (hid W.S H1) (hid W.S H2) := bt'.hid (N := []) (fun a m => by rw [fd] at m; rw [List.mem_singleton.mp m]; exact hd) (fun a m => nomatch m)
  have g2 := g1.ok.after (C := [cell d (cDk K d l ns)]) (fun r m => by rw [List.mem_singleton.mp m]; exact hL) bt' (fun a m => by rw [fd] at m; rw [List.mem_singleton.mp m, hob']; simp) (fun r m => by
    rw [List.mem_singleton.mp m]
    exact ⟨_, hob', b', c', e', rfl, up.seq hl, ne, b0'⟩)
  exact q _ w H2 ⟨m, pm, w0, w1⟩ (g1.trans g2) rfl
end
end Cs
set_option maxHeartbeats 4000000
namespace Cs
open PySem PySem.Spec PyProof.Rows L2
/-! ### a caught error, read -/
/-! ### a list over a drawn range -/
/-! ### so many spaces -/
/-! ### a text's letter at a drawn place -/
/-! ### a law with tables whose script is short -/
abbrev spLawL (K : PySem.W.Frag) (n : Nat) (Ps : List Addr) : Sp := spN (fun _ => Ps.map tab) (fun ns : List Int => [(tSc K).is ns]) tBl (fun ns => ns.length ≤ n) (fun _ y => y = true)
theorem spLn_in {K : PySem.W.Frag} {n : Nat} {H : Hp} {a : Addr} {ns : List Int} {Q : VK} {E : XK} {Ps : List Addr} (hn : ns.length ≤ n) (nd : Ps.Nodup) (hP : ∀ P ∈ Ps, H P = some (.tbl #[])) (hS : SqL K H a (ns.map V.int)) (q : ∀ H', Q (.bl true) H') : spLawL K n Ps [.ref a] H Q E := by
  have off : ∀ {o : HO}, H a = some o → (∀ x, o ≠ .tbl x) → a ∉ Ps := fun h1 h2 z => by
    rw [hP a z] at h1
    exact h2 _ (Option.some.inj h1).symm
  refine ⟨Ps, ns, fun b m => (fun z => by rw [hP b m] at z; cases z), by rw [fps_tabs]; exact nd, fun b m => by rw [fps_tabs] at m; exact m, fun r m => ?_, ⟨⟨a, rfl, ?_⟩, trivial⟩, hn, fun v y H' py _ _ _ r => ?_⟩
  · obtain ⟨p, hp, rfl⟩ := List.mem_map.mp m
    exact ⟨_, hP p hp, #[], rfl, trivial⟩
  · rcases hS with (hS | ⟨o, hS⟩) | hS
    · exact .inl (.inl (by rw [hid_of (off hS (by simp))]; exact hS))
    · exact .inl (.inr ⟨o, by rw [hid_of (off hS (by simp))]; exact hS⟩)
    · exact .inr hS
  · obtain rfl : v = .bl y := r
    obtain rfl : y = true := py
    exact q H'
theorem walk_tabsL {l : PySem.W.OpenLaw} {n k : Nat} {q : Program} {loose : List Str} {XP : (Str → Option Value) → Heap → Prop} {YP : World → Heap → Prop} {d : DefRec} {K : Params → PySem.W.Frag} {x : Str} (ts : List Str)
    (hn : l.most = some n) (hn2 : n ≤ sizeLine) (hdf : d.params.defaults = []) (hr : Room k callerA) (hY : ∀ (w : World) (h : Heap), YP w h → (K w.params).In h) (hts : ∀ w : World, TabsIn (K w.params) q ts) (hnd : ∀ w : World, (tbsOf (K w.params) ts).Nodup)
    (F : ∀ (w : World) (mg : Str → Option Value) (fa : Addr) (h : Heap), (K w.params).In h → h.Ns mainGlobals mg → mg d.name = some (.ref fa) →
      ∃ fd : FuncData, (∀ (s : Shared) (u : Value), BindsTo s fd ⟨[u], []⟩ [(x, u)]) ∧
        ∀ base : Heap, (K w.params).In base → base.Ns mainGlobals mg → (∀ y ∈ ts, GxR.TabB base mg (tbOf (K w.params) y).1 (tbOf (K w.params) y).2) → FnOk l.prog w (K w.params) mg base CX0 k fa fd [x] (spLawL (K w.params) n (tbsOf (K w.params) ts))) :
    PySem.W.WalkO q loose XP YP l.row.toRowW d [] (fun f vs => PySem.call f vs) :=
  walk_ofG (CX := fun _ => CX0) (sp := fun w => spLawL (K w.params) n (tbsOf (K w.params) ts)) ts hn hn2 hdf hr hY hts F (fun w H a ns hl _ hT hS => spLn_in hl (hnd w) (fun P hP => by
    obtain ⟨y, hy, rfl⟩ := List.mem_map.mp hP
    exact hT y hy) hS fun _ => rfl) (fun _ _ _ _ _ z => z)
end Cs
set_option maxHeartbeats 4000000
set_option maxHeartbeats 4000000
namespace Cs
open PySem PySem.Spec PyProof.Rows L2
/-! ### triples, pairs, sums, the lesser and the greater -/
section
variable {α β γ : Type} {W : Wd} {K : PySem.W.Frag} {ta tb tc : TE} {t : Ty α} {u : Ty β} {x : α} {y : β} {i j k : Int} {us : TS} {D : Ends} {m n l : Nat}
theorem ev_min (ha : Ev W ta tInt i) (hb : Ev W tb tInt j) : Ev W (tCB (fun xs H Q => ∃ i j, xs = [.int i, .int j] ∧ Q (.int (if j < i then j else i)) H) (tCons ta (tCons tb tNil))) tInt (if j < i then j else i) := fun σ H o Q q =>
  ha σ H o _ fun v H1 g1 r1 => hb σ H1 g1.ok _ fun v2 H2 g2 r2 => ⟨i, j, by rw [show v = .int i from r1, show v2 = .int j from r2], q _ H2 (g1.trans g2) rfl⟩
/-- zip of two lists -/
theorem iv_zip {xs : List α} {ys : List β} (ha : Ev W ta (tLs K t) xs) (hb : Ev W tb (tLs K u) ys) : Iv W (iZip K (tCons ta (tCons tb tNil))) (tPr K t u) (xs.zip ys) := fun σ H o R q =>
  ha σ H o _ fun v H1 g1 r1 => hb σ H1 g1.ok _ fun v2 H2 g2 r2 => by
    obtain ⟨p1, vs1, rfl, s1, al1⟩ := (tLs K t).mono g2.up r1
    obtain ⟨p2, vs2, rfl, s2, al2⟩ := r2
    refine ⟨p1, p2, vs1, vs2, rfl, SqL.of (hid_sub _ _ s1), SqL.of (hid_sub _ _ s2), q _ _ ⟨fun H => (H p1 = some (.lst vs1) ∧ All2 (t.r H) vs1 xs) ∧ (H p2 = some (.lst vs2) ∧ All2 (u.r H) vs2 ys), fun e ⟨⟨h1, h2⟩, h3, h4⟩ => ⟨⟨e _ _ h1, All2.mono (fun _ _ => t.mono e) h2⟩, e _ _ h3, All2.mono (fun _ _ => u.mono e) h4⟩⟩ (g1.trans g2) ⟨⟨s1, al1⟩, s2, al2⟩ ⟨YPair (fun i => vs1[i]?) (fun i => vs2[i]?), ?_, fun i H v H' S hi z al ⟨T, a, b, e, nT, e2, ea, eb⟩ => ?_⟩⟩
    · rw [List.length_zip, ← al1.length, ← al2.length]
      exact (walk_zip rfl).mono (fun H ⟨S, z⟩ => ⟨SqL.of (hid_sub _ _ z.1.1), SqL.of (hid_sub _ _ z.2.1)⟩) fun i H v H' _ _ h => h
    · subst e e2
      obtain ⟨x, x1, x2⟩ := z.1.2.getV ea
      obtain ⟨y, y1, y2⟩ := z.2.2.getV eb
      have sm : Same H (upd H T (.tup [a, b])) := Same.new nT
      have nS : T ∉ S := fun m => al T m nT
      refine ⟨sm, (x, y), ?_, T, a, b, rfl, SqT.of (by rw [hid_of nS]; exact upd_same), t.mono (hid_same sm) x2, u.mono (hid_same sm) y2⟩
      rw [List.getElem?_zip_eq_some]
      exact ⟨x1, y1⟩
end
end Cs
set_option maxHeartbeats 4000000
namespace Cs
open PySem PySem.Spec PyProof.Rows L2
def topS (i : Nat) : Stmt := PySem.Challenge.pw_consol_k06_whole_kernel_or_one.main.body.getD i (.Pass ⟨0, 0, 0, 0⟩)
local macro_rules | `(tactic| walk_at "rd") => `(tactic| (first
  | (refine ⟨_, rfl, ?_⟩)
  | (refine ⟨_, _, rfl, rfl, ?_⟩)
  | (refine .inl ⟨_, rfl, ?_⟩)
  | (refine .inr ⟨_, rfl, ?_⟩)
  | (refine ⟨_, _, _, _, rfl, rfl, SqL.of upd_same, rfl, ?_⟩)
  | (refine ⟨_, _, _, _, rfl, rfl, upd_same, rfl, ?_⟩)
  | (refine ⟨_, ?xs, _, ?v, rfl, rfl, ?h, ?x, ?_⟩; (case h => first | exact SqL.of (by assumption) | exact SqT.of (by assumption) | assumption); (case x => first | rfl | exact atI_nat (j := 0) rfl | exact atI_nat (j := 1) rfl))))
local macro_rules | `(tactic| walk_at "isi") => `(tactic| (first
  | (refine ⟨_, _, _, _, _, rfl, .ty _, .base (.int _), kit_ty kit_it, ?_⟩)
  | (refine ⟨_, _, _, _, _, rfl, .ty _, .base (.int _), kit_ty kit_ib, ?_⟩)
  | (refine ⟨_, _, _, _, _, rfl, .ty _, .base (.int _), kit_ty kit_ii, ?_⟩)
  | (refine ⟨_, _, _, _, _, rfl, .ty _, .base (.bl _), kit_ty kit_bt, ?_⟩)
  | (refine ⟨_, _, _, _, _, rfl, .ty _, .base (.bl _), kit_ty kit_bb, ?_⟩)
  | (refine ⟨_, _, _, _, _, rfl, .ty _, .base (.bl _), kit_ty kit_bi, ?_⟩)))
local macro_rules | `(tactic| walk_at "ev") => `(tactic| (first
  | exact ev_var rfl
  | exact ev_int
  | exact ev_str
  | exact ev_bl
  | exact ev_non
  | (refine ev_add ?_ ?_ <;> walk_at "ev")
  | (refine ev_sub ?_ ?_ <;> walk_at "ev")
  | (refine ev_mul ?_ ?_ ?_ <;> (try walk_at "ev"))
  | (refine ev_neg ?_ <;> walk_at "ev")
  | (refine ev_num ?_ <;> walk_at "ev")
  | (refine ev_den ?_ <;> walk_at "ev")
  | (refine ev_cmp ?_ ?_ <;> walk_at "ev")
  | (refine ev_eqI ?_ ?_ <;> walk_at "ev")
  | (refine ev_eqS ?_ ?_ <;> walk_at "ev")
  | (refine ev_neI ?_ ?_ <;> walk_at "ev")
  | (refine ev_neS ?_ ?_ <;> walk_at "ev")
  | (refine ev_inS ?_ ?_ <;> walk_at "ev")
  | (refine ev_niS ?_ ?_ <;> walk_at "ev")
  | (refine ev_len ?_ <;> walk_at "ev")
  | (refine ev_list ?_ <;> walk_at "ev")
  | (refine ev_listRev ?_ <;> walk_at "ev")
  | (refine ev_int1 ?_ <;> walk_at "ev")))
local macro_rules | `(tactic| walk_at "ea") => `(tactic| (first
  | exact ea_nil
  | (refine ea_cons ?_ ?_ <;> (first | walk_at "ev" | walk_at "ea" | skip))))
local macro_rules | `(tactic| walk_at "sb") => `(tactic| (first | exact True.intro | (refine And.intro rfl ?_; walk_at "sb")))
local macro_rules | `(tactic| walk_at "subt") => `(tactic| repeat (first | exact List.nil_sublist _ | apply List.Sublist.cons₂ | apply List.Sublist.cons))
section
variable {P : Program} {w : World} {K : PySem.W.Frag} {mg : Str → Option Value} {base : Heap}
abbrev sDeck : Stmt := topS 38
theorem scDeck : FnScope ["script"] ["script"] (defScope sDeck) := ⟨rfl, rfl, rfl, by decide +kernel, rfl, by decide +kernel, by decide +kernel⟩
theorem ok_deck {f : Addr} {fd : FuncData} {k : Nat} (F : Fun K "_law_deck" "_law_deck" sDeck f fd) (z_list : mg "list" = none) : FnOk P w K mg base CX0 (k + 1) f fd ["script"] (spDeckN K) := by
  refine F.ok scDeck (fun vs H Q E h => ?_) (fun cdv A outer s H vs Q E hr h => ?_)
  · obtain ⟨a, ns, rfl, _⟩ := h
    rfl
  · obtain ⟨a, ns, rfl, hS, q⟩ := h
    refine ⟨_, (pss_one (ps_ret (pe_lst (pa_cons (pe_callTy call_list_of (by rfl) z_list (by decide +kernel) (pa_cons (pv 0) pa_nil)) (pa_cons pe_int (pa_cons pe_int (pa_cons pe_int pa_nil))))))), ?_⟩
    refine ⟨_, rfl, _, _, rfl, .inl hS, fun l hl => ?_⟩
    refine ⟨by show 4 ≤ sizeLine; decide, fun d hd => ?_⟩
    have hdl : d ≠ l := fun e => by rw [e, upd_same] at hd; cases hd
    have hd0 : H d = none := by rw [upd_ne hdl] at hd; exact hd
    refine q d l _ ((Same.new hl).trans (Same.new hd)) hd0 hl ⟨0, 0, 7, upd_same, .inl (.inl ?_), hdl.symm, Int.le_refl _⟩
    rw [upd_ne hdl.symm, upd_same]
abbrev sDraw : Stmt := topS 39
theorem scDraw : FnScope ["deck", "most", "value", "cell"] ["deck", "most"] (defScope sDraw) := ⟨rfl, rfl, rfl, by decide +kernel, rfl, by decide +kernel, by decide +kernel⟩
theorem ok_draw {f : Addr} {fd : FuncData} {k : Nat} (F : Fun K "_law_draw" "_law_draw" sDraw f fd) (z_len : mg "len" = none) (z_int : mg "int" = none) : FnOk P w K mg base CX0 (k + 1) f fd ["deck", "most"] (spDrawA K) := by
  refine F.ok scDraw (fun vs H Q E h => ?_) (fun cdv A outer s H vs Q E hr h => ?_)
  · obtain ⟨a, m, l, ns, rfl, _⟩ := h
    rfl
  · obtain ⟨d, m, l, ns, rfl, m0, mb, ⟨b, c, e, hd, hl, ne, b0⟩, q⟩ := h
    refine ⟨_, (pss_cons (ps_if (pt_cmpR op_ge (pe_ix ix_list (pv 0) pe_int (fun _ _ => rfl)) (pv 1) (nomark _)) (pss_cons (ps_set (i := 2) scDraw.nd rfl (Or.inl rfl) (pe_op op_mod (pe_callTy call_int1 (by rfl) z_int (by decide +kernel) (pa_cons (pe_ix ix_list (pv 0) pe_int (fun _ _ => rfl)) pa_nil)) (pv 1)))
      (pss_cons (ps_asg (pe_op op_fdivA (pe_ix ix_list (pv 0) pe_int (fun _ _ => rfl)) (pv 1)) (pg_sub (pv 0) pe_int set_list))
      (pss_one (ps_ret (pv 2))))) pss_nil)
      (pss_cons (ps_set (i := 3) scDraw.nd rfl (Or.inl rfl) pe_int)
      (pss_cons (ps_if (pt_cmpR op_lt (pe_ix ix_list (pv 0) pe_int (fun _ _ => rfl)) (pe_callB call_len_seq (by rfl) z_len PySem.boot_len (pa_cons (pe_ix ix_list (pv 0) pe_int (fun _ _ => rfl)) pa_nil)) (nomark _)) (pss_one (ps_set (i := 3) scDraw.nd rfl (Or.inl rfl) (pe_ix ix_list (pe_ix ix_list (pv 0) pe_int (fun _ _ => rfl)) (pe_ix ix_list (pv 0) pe_int (fun _ _ => rfl)) (fun _ _ => rfl)))) pss_nil)
      (pss_cons (ps_asg (pe_op op_add (pe_ix ix_list (pv 0) pe_int (fun _ _ => rfl)) pe_int) (pg_sub (pv 0) pe_int set_list))
      (pss_cons (ps_asg pe_int (pg_sub (pv 0) pe_int set_list))
      (pss_cons (ps_if (pt_cmpR op_ge (pv 3) (pe_op op_pow pe_int pe_int) (nomark _)) (pss_cons (ps_asg (pe_op op_fdivA (pv 3) (pv 1)) (pg_sub (pv 0) pe_int set_list))
      (pss_one (ps_ret (pe_op op_mod (pe_callTy call_int1 (by rfl) z_int (by decide +kernel) (pa_cons (pv 3) pa_nil)) (pv 1))))) pss_nil)
      (pss_cons (ps_asg (pe_op op_mod (pe_callTy call_int1 (by rfl) z_int (by decide +kernel) (pa_cons (pe_op op_add (pe_op op_add (pe_op op_mulA (pe_ix ix_list (pv 0) pe_int (fun _ _ => rfl)) pe_int) (pe_op op_mulA (pv 3) pe_int)) (pe_op op_mulA (pe_ix ix_list (pv 0) pe_int (fun _ _ => rfl)) pe_int)) pa_nil)) pe_int) (pg_sub (pv 0) pe_int set_list))
      (pss_cons (ps_asg (pe_op op_mod (pe_callTy call_int1 (by rfl) z_int (by decide +kernel) (pa_cons (pe_op op_add (pe_op op_mulA (pe_ix ix_list (pv 0) pe_int (fun _ _ => rfl)) pe_int) pe_int) pa_nil)) pe_int) (pg_sub (pv 0) pe_int set_list))
      (pss_one (ps_ret (pe_op op_mod (pe_callTy call_int1 (by rfl) z_int (by decide +kernel) (pa_cons (pe_op op_fdivA (pe_ix ix_list (pv 0) pe_int (fun _ _ => rfl)) pe_int) pa_nil)) (pv 1)))))))))))), ?_⟩
    have mb9 : m.natAbs < 2 ^ 9000 := Nat.lt_trans mb (Nat.pow_lt_pow_right (by decide) (by decide))
    repeat walk_at "rd"
    refine ite2 (fun h1 => ?_) (fun h1 => ?_)
    · repeat walk_at "rd"
      refine ⟨m0, ?_⟩
      repeat walk_at "rd"
      refine ⟨⟨by omega, mb9⟩, ?_⟩
      repeat walk_at "rd"
      exact q _ _ (Int.emod_nonneg _ (by omega)) (Int.emod_lt_of_pos _ m0) But.upd (deckA_of hl ne But.upd upd_same b0)
    · repeat walk_at "rd"
      refine ⟨_, _, rfl, .inl hl, ?_⟩
      repeat walk_at "rd"
      refine ite2 (fun h2 => ?_) (fun h2 => ?_)
      · repeat walk_at "rd"
        obtain ⟨z, hz⟩ := cell_at (ns := ns) b0 (by have := of_decide_eq_true h2; rw [List.length_map] at this; exact this)
        refine ⟨_, _, _, _, rfl, rfl, hl, hz, ?_⟩
        repeat walk_at "rd"
        refine ⟨⟨by decide, by decide, by decide⟩, ?_⟩
        repeat walk_at "rd"
        refine ite2 (fun h3 => ?_) (fun h3 => ?_)
        · repeat walk_at "rd"
          refine ⟨⟨by omega, mb9⟩, ?_⟩
          repeat walk_at "rd"
          refine ⟨m0, ?_⟩
          exact q _ _ (Int.emod_nonneg _ (by omega)) (Int.emod_lt_of_pos _ m0) (((But.upd.trans But.upd)).trans But.upd) (deckA_of hl ne (((But.upd.trans But.upd)).trans But.upd) upd_same (show (0 : Int) ≤ b + 1 by omega))
        · repeat walk_at "rd"
          refine ⟨mulR (by decide), ?_⟩
          repeat walk_at "rd"
          refine ⟨mulR (by decide), ?_⟩
          repeat walk_at "rd"
          refine ⟨mulR (by decide), ?_⟩
          repeat walk_at "rd"
          refine ⟨(show (0 : Int) < 2147483647 by decide), ?_⟩
          repeat walk_at "rd"
          refine ⟨mulR (by decide), ?_⟩
          repeat walk_at "rd"
          refine ⟨(show (0 : Int) < 2147483647 by decide), ?_⟩
          repeat walk_at "rd"
          refine ⟨⟨by decide, by decide⟩, ?_⟩
          repeat walk_at "rd"
          refine ⟨m0, ?_⟩
          exact q _ _ (Int.emod_nonneg _ (by omega)) (Int.emod_lt_of_pos _ m0) (((But.upd.trans But.upd).trans But.upd).trans But.upd) (deckA_of hl ne (((But.upd.trans But.upd).trans But.upd).trans But.upd) upd_same (show (0 : Int) ≤ b + 1 by omega))
      · repeat walk_at "rd"
        refine ⟨⟨by decide, by decide, by decide⟩, ?_⟩
        repeat walk_at "rd"
        repeat walk_at "rd"
        refine ⟨mulR (by decide), ?_⟩
        repeat walk_at "rd"
        refine ⟨mulR (by decide), ?_⟩
        repeat walk_at "rd"
        refine ⟨mulR (by decide), ?_⟩
        repeat walk_at "rd"
        refine ⟨(show (0 : Int) < 2147483647 by decide), ?_⟩
        repeat walk_at "rd"
        refine ⟨mulR (by decide), ?_⟩
        repeat walk_at "rd"
        refine ⟨(show (0 : Int) < 2147483647 by decide), ?_⟩
        repeat walk_at "rd"
        refine ⟨⟨by decide, by decide⟩, ?_⟩
        repeat walk_at "rd"
        refine ⟨m0, ?_⟩
        exact q _ _ (Int.emod_nonneg _ (by omega)) (Int.emod_lt_of_pos _ m0) (((But.upd.trans But.upd).trans But.upd).trans But.upd) (deckA_of hl ne (((But.upd.trans But.upd).trans But.upd).trans But.upd) upd_same (show (0 : Int) ≤ b + 1 by omega))
abbrev sGcd : Stmt := topS 41
theorem scGcd : FnScope ["a", "b", "k", "rest"] ["a", "b"] (defScope sGcd) := ⟨rfl, rfl, rfl, by decide +kernel, rfl, by decide +kernel, by decide +kernel⟩
theorem ok_gcd {f : Addr} {fd : FuncData} {k : Nat} (F : Fun K "_law_gcd" "_law_gcd" sGcd f fd) (z_range : mg "range" = none) (z_int : mg "int" = none) : FnOk P w K mg base CX0 (k + 1) f fd ["a", "b"] spGcd := by
  refine F.ok scGcd (fun vs H Q E h => ?_) (fun cdv A outer s H vs Q E hr h => ?_)
  · obtain ⟨a, b, rfl, _⟩ := h
    rfl
  · obtain ⟨a, b, rfl, ha, hb, q⟩ := h
    refine ⟨_, (pss_cons (ps_for PassesOwn.never rfl (pi_range1 rfl z_range (pa_cons pe_int pa_nil)) (pg_name (i := 2) scGcd.nd rfl (Or.inl rfl)) (pss_cons (ps_if (pt_cmpR op_eq (pv 1) pe_int (nomark _)) (pss_one (ps_ret (pv 0))) pss_nil)
      (pss_cons (ps_set (i := 3) scGcd.nd rfl (Or.inl rfl) (pe_op op_mod (pe_callTy call_int1 (by rfl) z_int (by decide +kernel) (pa_cons (pv 0) pa_nil)) (pv 1)))
      (pss_cons (ps_set (i := 0) scGcd.nd rfl (Or.inl rfl) (pv 1))
      (pss_one (ps_set (i := 1) scGcd.nd rfl (Or.inl rfl) (pv 3)))))))
      (pss_one (ps_ret (pv 0)))), ?_⟩
    have hab : a * b < 2 ^ 4800 := Nat.lt_of_lt_of_eq (Nat.mul_lt_mul'' ha hb) (Nat.pow_add 2 2400 2400).symm
    refine ⟨5000, rfl, by decide, by decide, for_range (n := 5000) (fun i σ H' => ∃ (x y : Nat) (k2 k3 : Option V), σ = [some (.int x), some (.int y), k2, k3] ∧ H' = H ∧ ((i ≤ 4801 ∧ EG (Nat.gcd a b) 4800 i x y) ∨ (y = 0 ∧ x = Nat.gcd a b))) ?_ ?_ ?_⟩
    · exact ⟨a, b, none, none, rfl, rfl, .inl ⟨by omega, EG.start hab⟩⟩
    · intro i σ H1 hi hP
      obtain ⟨x, y, k2, k3, rfl, rfl, hP⟩ := hP
      refine ⟨_, rfl, rfl, _, rfl, ite2 (fun h0 => ?_) (fun h0 => ?_)⟩
      · have hy : y = 0 := by have := V.int.inj (of_decide_eq_true h0); omega
        refine ⟨_, rfl, ?_⟩
        have hx : x = Nat.gcd a b := by
          rcases hP with ⟨_, hE⟩ | ⟨_, hx⟩
          · subst hy; exact hE.zero
          · exact hx
        subst hx
        exact q
      · have hy : 0 < y := by
          rcases Nat.eq_zero_or_pos y with z | z
          · subst z; exact absurd (decide_eq_true rfl) h0
          · exact z
        rcases hP with ⟨hi2, hE⟩ | ⟨z, _⟩
        · have hi3 : i ≤ 4800 := by
            rcases Nat.lt_or_ge i 4801 with z | z
            · omega
            · have e : i = 4801 := by omega
              subst e
              have := hE.last
              omega
          repeat walk_at "rd"
          refine ⟨(show (0 : Int) < (y : Int) by omega), ?_⟩
          repeat walk_at "rd"
          exact ⟨y, x % y, some (.int (0 + (i : Int))), some (.int ((x : Int) % (y : Int))), rfl, rfl, .inl ⟨by omega, hE.step hy hi3⟩⟩
        · omega
    · intro σ H1 hP
      obtain ⟨x, y, k2, k3, rfl, rfl, hP⟩ := hP
      refine ⟨_, rfl, ?_⟩
      rcases hP with ⟨z, _⟩ | ⟨_, hx⟩
      · omega
      · subst hx
        exact q
abbrev sRatio : Stmt := topS 42
theorem scRatio : FnScope ["p", "q", "divisor"] ["p", "q"] (defScope sRatio) := ⟨rfl, rfl, rfl, by decide +kernel, rfl, by decide +kernel, by decide +kernel⟩
theorem ok_ratio {f : Addr} {fd : FuncData} {k : Nat} (F : Fun K "_law_ratio" "_law_ratio" sRatio f fd) (c_law_gcd : Cal P w K mg base k "_law_gcd" ["a", "b"] spGcd) (z_abs : mg "abs" = none) : FnOk P w K mg base CX0 (k + 1) f fd ["p", "q"] spRatio := by
  refine F.ok scRatio (fun vs H Q E h => ?_) (fun cdv A outer s H vs Q E hr h => ?_)
  · obtain ⟨a, b, rfl, _⟩ := h
    rfl
  · obtain ⟨p, q, rfl, q0, hp, hq, out⟩ := h
    refine ⟨_, (pss_cons (ps_set (i := 2) scRatio.nd rfl (Or.inl rfl) (pe_cal c_law_gcd hr (by rfl) (pa_cons (pe_callB call_abs (by rfl) z_abs (by decide +kernel) (pa_cons (pv 0) pa_nil)) (pa_cons (pe_callB call_abs (by rfl) z_abs (by decide +kernel) (pa_cons (pv 1) pa_nil)) pa_nil))))
      (pss_cons (ps_if (pt_cmpR op_lt (pv 1) pe_int (nomark _)) (pss_one (ps_set (i := 2) scRatio.nd rfl (Or.inl rfl) (pe_un un_neg (pv 2)))) pss_nil)
      (pss_one (ps_ret (pe_tup (pa_cons (pe_op op_fdivA (pv 0) (pv 2)) (pa_cons (pe_op op_fdivA (pv 1) (pv 2)) pa_nil))))))), ?_⟩
    refine ⟨_, rfl, _, rfl, _, rfl, _, rfl, p.natAbs, q.natAbs, ?_, hp, hq, ?_⟩
    · have : ∀ z : Int, (if z < 0 then -z else z) = (z.natAbs : Int) := fun z => by split <;> omega
      rw [this, this]
      rfl
    have hg := gcd_pos p q q0
    have hgb : ((Nat.gcd p.natAbs q.natAbs : Nat) : Int).natAbs < 2 ^ 9000 := by
      rw [Int.natAbs_natCast]
      exact Nat.lt_of_le_of_lt (Nat.gcd_le_right _ (by omega)) (Nat.lt_trans hq (Nat.pow_lt_pow_right (by decide) (by decide)))
    have en := frac_num p q q0
    have ed := frac_den p q q0
    repeat walk_at "rd"
    refine ite2 (fun h1 => ?_) (fun h1 => ?_)
    · have h1' : q < 0 := of_decide_eq_true h1
      rw [if_pos h1'] at en ed
      repeat walk_at "rd"
      refine ⟨⟨by omega, by rw [Int.natAbs_neg]; exact hgb⟩, ?_⟩
      repeat walk_at "rd"
      refine ⟨⟨by omega, by rw [Int.natAbs_neg]; exact hgb⟩, by show 2 ≤ sizeLine; decide, fun t ht => ?_⟩
      refine out t _ (Same.new ht) ht (upd_same.trans ?_)
      show some (HO.tup [.int (p.fdiv _), .int (q.fdiv _)]) = some (HO.tup [.int _, .int _])
      rw [en, ed]
    · have h1' : ¬ q < 0 := fun z => h1 (decide_eq_true z)
      rw [if_neg h1'] at en ed
      repeat walk_at "rd"
      refine ⟨⟨by omega, hgb⟩, ?_⟩
      repeat walk_at "rd"
      refine ⟨⟨by omega, hgb⟩, by show 2 ≤ sizeLine; decide, fun t ht => ?_⟩
      refine out t _ (Same.new ht) ht (upd_same.trans ?_)
      show some (HO.tup [.int (p.fdiv _), .int (q.fdiv _)]) = some (HO.tup [.int _, .int _])
      rw [en, ed]
end
end Cs
set_option maxHeartbeats 4000000
namespace Cs
/-! ### systems: rows of whole numbers brought into echelon form -/
abbrev Fn := Nat → Int
abbrev Pvs := List (Fn × Nat)
def D3f (a b c a2 b2 c2 a3 b3 c3 : Int) : Int := a * (b2 * c3 - c2 * b3) - b * (a2 * c3 - c2 * a3) + c * (a2 * b3 - b2 * a3)
def D4f (a b c d a2 b2 c2 d2 a3 b3 c3 d3 a4 b4 c4 d4 : Int) : Int := a * D3f b2 c2 d2 b3 c3 d3 b4 c4 d4 - b * D3f a2 c2 d2 a3 c3 d3 a4 c4 d4 + c * D3f a2 b2 d2 a3 b3 d3 a4 b4 d4 - d * D3f a2 b2 c2 a3 b3 c3 a4 b4 c4
/-- the determinant of the pivots' rows and of x, in the pivots' columns and j -/
def Dl : Pvs → Fn → Fn
  | [], x, j => x j
  | [(h, a)], x, j => h a * x j - h j * x a
  | [(h, a), (g, b)], x, j => D3f (h a) (h b) (h j) (g a) (g b) (g j) (x a) (x b) (x j)
  | [(h, a), (g, b), (f, c)], x, j => D4f (h a) (h b) (h c) (h j) (g a) (g b) (g c) (g j) (f a) (f b) (f c) (f j) (x a) (x b) (x c) (x j)
  | _, _, _ => 0
/-- the last pivot -/
def PvL : Pvs → Int
  | [] => 1
  | [(h, a)] => h a
  | [(h, a), (g, b)] => Dl [(h, a)] g b
  | [(h, a), (g, b), (f, c)] => Dl [(h, a), (g, b)] f c
  | [(h, a), (g, b), (f, c), (e, d)] => Dl [(h, a), (g, b), (f, c)] e d
  | _ => 0
theorem PvL_snoc {l : Pvs} {h : Fn} {c : Nat} (k : l.length ≤ 3) : PvL (l ++ [(h, c)]) = Dl l h c := by
  match l, k with
  | [], _ => rfl
  | [_], _ => rfl
  | [_, _], _ => rfl
  | [_, _, _], _ => rfl
/-- one step -/
theorem Dl_step {l : Pvs} {h x : Fn} {c j : Nat} (k : l.length ≤ 2) : Dl (l ++ [(h, c)]) x j * PvL l = Dl l h c * Dl l x j - Dl l x c * Dl l h j := by
  match l, k with
  | [], _ => show (h c * x j - h j * x c) * 1 = h c * x j - x c * h j; grind
  | [(p, a)], _ =>
    show D3f (p a) (p c) (p j) (h a) (h c) (h j) (x a) (x c) (x j) * p a = (p a * h c - p c * h a) * (p a * x j - p j * x a) - (p a * x c - p c * x a) * (p a * h j - p j * h a)
    unfold D3f
    grind
  | [(p, a), (q, b)], _ =>
    show D4f (p a) (p b) (p c) (p j) (q a) (q b) (q c) (q j) (h a) (h b) (h c) (h j) (x a) (x b) (x c) (x j) * (p a * q b - p b * q a) = D3f (p a) (p b) (p c) (q a) (q b) (q c) (h a) (h b) (h c) * D3f (p a) (p b) (p j) (q a) (q b) (q j) (x a) (x b) (x j) - D3f (p a) (p b) (p c) (q a) (q b) (q c) (x a) (x b) (x c) * D3f (p a) (p b) (p j) (q a) (q b) (q j) (h a) (h b) (h j)
    unfold D4f D3f
    grind
/-! ### echelon form -/
abbrev IR := List Int
def gI (r : IR) : Fn := fun j => r.getD j 0
theorem gI_at {r : IR} {j : Nat} (h : j < r.length) : r[j]? = some (gI r j) := by unfold gI; rw [List.getD_eq_getElem?_getD, List.getElem?_eq_getElem h]; rfl
theorem gI_out {r : IR} {j : Nat} (h : r.length ≤ j) : gI r j = 0 := by unfold gI; rw [List.getD_eq_getElem?_getD, List.getElem?_eq_none h]; rfl
def redR (r h : IR) (c : Nat) (d : Int) : IR := List.replicate (c + 1) 0 ++ ((r.drop (c + 1)).zip (h.drop (c + 1))).map fun p => Int.fdiv (gI h c * p.1 - gI r c * p.2) d
theorem red_len {r h : IR} {c w : Nat} {d : Int} (hr : r.length = w) (hh : h.length = w) (hc : c < w) : (redR r h c d).length = w := by
  unfold redR
  rw [List.length_append, List.length_replicate, List.length_map, List.length_zip, List.length_drop, List.length_drop]
  omega
theorem gI_red {r h : IR} {c w : Nat} {d : Int} (hr : r.length = w) (hh : h.length = w) (hc : c < w) (j : Nat) : gI (redR r h c d) j = if j ≤ c then 0 else Int.fdiv (gI h c * gI r j - gI r c * gI h j) d := by
  rcases Nat.lt_or_ge j w with q | q
  · unfold redR
    show (List.getD _ j 0) = _
    rw [List.getD_eq_getElem?_getD]
    by_cases e : j ≤ c
    · rw [List.getElem?_append_left (by rw [List.length_replicate]; omega), List.getElem?_replicate, if_pos (by omega), if_pos e]; rfl
    · rw [List.getElem?_append_right (by rw [List.length_replicate]; omega), List.length_replicate, List.getElem?_map, if_neg e]
      have z : ((r.drop (c + 1)).zip (h.drop (c + 1)))[j - (c + 1)]? = some (gI r j, gI h j) := by
        rw [List.getElem?_zip_eq_some]
        refine ⟨?_, ?_⟩
        · show (r.drop (c + 1))[j - (c + 1)]? = some (gI r j)
          rw [List.getElem?_drop, show c + 1 + (j - (c + 1)) = j by omega]
          exact gI_at (by omega)
        · show (h.drop (c + 1))[j - (c + 1)]? = some (gI h j)
          rw [List.getElem?_drop, show c + 1 + (j - (c + 1)) = j by omega]
          exact gI_at (by omega)
      rw [z]; rfl
  · rw [gI_out (by rw [red_len hr hh hc]; exact q), if_neg (by omega), gI_out (r := r) (j := j) (by rw [hr]; exact q), gI_out (r := h) (j := j) (by rw [hh]; exact q)]
    simp
structure Sy where
  fd : List IR
  pv : List Nat
  rs : List IR
  dv : Int
def fRow (rs : List IR) (c : Nat) : Option Nat := rs.findIdx? fun r => decide (gI r c ≠ 0)
def echS (s : Sy) (c : Nat) : Sy := match fRow s.rs c with
  | none => s
  | some i => ⟨s.fd ++ [s.rs.getD i []], s.pv ++ [c], (s.rs.take i ++ s.rs.drop (i + 1)).map fun r => redR r (s.rs.getD i []) c s.dv, gI (s.rs.getD i []) c⟩
def ech (t : List IR) (n : Nat) : Sy := (List.range n).foldl echS ⟨[], [], t, 1⟩
abbrev Lp := List (IR × Nat)
abbrev fnl (l : Lp) : Pvs := l.map fun p => (gI p.1, p.2)
structure EI (w : Nat) (og : List IR) (m : Nat) (s : Sy) (l : Lp) (xs : List IR) : Prop where
  pm : og.Perm (l.map (·.1) ++ xs)
  wd : ∀ r ∈ og, r.length = w
  lw : ∀ r ∈ s.rs, r.length = w
  fw : ∀ r ∈ s.fd, r.length = w
  o4 : og.length ≤ 4
  pv : s.pv = l.map (·.2)
  fl : s.fd.length = l.length
  fd : ∀ (i : Nat) r p, s.fd[i]? = some r → l[i]? = some p → gI r = Dl (fnl (l.take i)) (gI p.1) ∧ gI r p.2 ≠ 0 ∧ ∀ j, j < p.2 → gI r j = 0
  rl : s.rs.length = xs.length
  rs : ∀ (i : Nat) r x, s.rs[i]? = some r → xs[i]? = some x → gI r = Dl (fnl l) (gI x) ∧ ∀ j, j < m → gI r j = 0
  dv : s.dv = PvL (fnl l)
  d0 : s.dv ≠ 0
  lt : ∀ p ∈ l, p.2 < m
  sr : (l.map (·.2)).Pairwise (· < ·)
theorem EI.cnt {w m : Nat} {og : List IR} {s : Sy} {l : Lp} {xs : List IR} (h : EI w og m s l xs) : l.length + xs.length ≤ 4 := by
  have := h.pm.length_eq
  rw [List.length_append, List.length_map] at this
  have := h.o4
  omega
theorem ei_0 {w : Nat} {og : List IR} (hw : ∀ r ∈ og, r.length = w) (o4 : og.length ≤ 4) : EI w og 0 ⟨[], [], og, 1⟩ [] og :=
  ⟨List.Perm.refl _, hw, hw, (fun r h => by cases h), o4, rfl, rfl, (fun i r p h => by cases h), rfl, fun i r x h g => ⟨by rw [show og[i]? = some r from h] at g; rw [Option.some.inj g]; rfl, fun j hj => by omega⟩, rfl, (by show (1 : Int) ≠ 0; decide), (fun p h => by cases h), List.Pairwise.nil⟩
theorem at_take_drop {α : Type} {xs : List α} {i j : Nat} (hi : i < xs.length) : (xs.take i ++ xs.drop (i + 1))[j]? = if j < i then xs[j]? else xs[j + 1]? := by
  by_cases c : j < i
  · rw [if_pos c, List.getElem?_append_left (by rw [List.length_take]; omega), List.getElem?_take, if_pos c]
  · rw [if_neg c, List.getElem?_append_right (by rw [List.length_take]; omega), List.getElem?_drop, List.length_take]
    congr 1
    omega
theorem ei_step {w m : Nat} {og : List IR} {s : Sy} {l : Lp} {xs : List IR} (h : EI w og m s l xs) (hm : m < w) : ∃ l' xs', EI w og (m + 1) (echS s m) l' xs' ∧ (fRow s.rs m = none → l' = l ∧ xs' = xs) := by
  unfold echS
  cases e : fRow s.rs m with
  | none =>
    refine ⟨l, xs, ⟨h.pm, h.wd, h.lw, h.fw, h.o4, h.pv, h.fl, h.fd, h.rl, fun i r x hr hx => ⟨(h.rs i r x hr hx).1, fun j hj => ?_⟩, h.dv, h.d0, fun p hp => Nat.lt_succ_of_lt (h.lt p hp), h.sr⟩, fun _ => ⟨rfl, rfl⟩⟩
    rcases Nat.lt_succ_iff_lt_or_eq.mp hj with q | rfl
    · exact (h.rs i r x hr hx).2 j q
    · unfold fRow at e
      rw [List.findIdx?_eq_none_iff] at e
      have := e r (List.mem_of_getElem? hr)
      simpa using this
  | some i =>
    unfold fRow at e
    rw [List.findIdx?_eq_some_iff_getElem] at e
    obtain ⟨il, e1, _⟩ := e
    have hd : s.rs.getD i [] = s.rs[i] := by rw [List.getD_eq_getElem?_getD, List.getElem?_eq_getElem il]; rfl
    have e1 : gI s.rs[i] m ≠ 0 := by simpa using e1
    have xl : i < xs.length := by rw [← h.rl]; exact il
    have hx : xs[i]? = some xs[i] := List.getElem?_eq_getElem xl
    have hr : s.rs[i]? = some s.rs[i] := List.getElem?_eq_getElem il
    obtain ⟨q1, q2⟩ := h.rs i _ _ hr hx
    have c4 := h.cnt
    have lw : ∀ (j : Nat) r, s.rs[j]? = some r → r.length = w := fun j r hj => h.lw r (List.mem_of_getElem? hj)
    have pl : PvL (fnl l) ≠ 0 := by rw [← h.dv]; exact h.d0
    dsimp only
    rw [hd]
    have fe : fnl (l ++ [(xs[i], m)]) = fnl l ++ [(gI xs[i], m)] := by show List.map _ _ = _; rw [List.map_append]; rfl
    have dvn : gI s.rs[i] m = PvL (fnl (l ++ [(xs[i], m)])) := by rw [fe, PvL_snoc (by rw [List.length_map]; omega), q1]
    refine ⟨l ++ [(xs[i], m)], xs.take i ++ xs.drop (i + 1), ⟨?_, h.wd, fun r hr' => ?_, fun r hr' => ?_, h.o4, by show s.pv ++ [m] = _; rw [h.pv, List.map_append]; rfl, by show (s.fd ++ _).length = (l ++ _).length; rw [List.length_append, List.length_append, h.fl]; rfl, fun j r p hj hp => ?_, ?_, fun j r x hj hx' => ?_, dvn, e1, fun p hp => ?_, ?_⟩, fun q => by cases q⟩
    · refine h.pm.trans ?_
      rw [List.map_append, List.append_assoc]
      refine List.Perm.append_left _ ?_
      have : xs = xs.take i ++ xs[i] :: xs.drop (i + 1) := by rw [List.getElem_cons_drop, List.take_append_drop]
      exact (List.Perm.of_eq this).trans List.perm_middle
    · obtain ⟨r0, hr0, rfl⟩ := List.mem_map.mp hr'
      refine red_len (h.lw r0 ?_) (lw i _ hr) hm
      rcases List.mem_append.mp hr0 with z | z
      · exact List.mem_of_mem_take z
      · exact List.mem_of_mem_drop z
    · rcases List.mem_append.mp hr' with z | z
      · exact h.fw r z
      · rw [List.mem_singleton.mp z]; exact lw i _ hr
    · have hj : (s.fd ++ [s.rs[i]])[j]? = some r := hj
      have jl := (List.getElem?_eq_some_iff.mp hj).1
      rw [List.length_append, List.length_singleton, h.fl] at jl
      rcases Nat.lt_or_ge j l.length with c | c
      · rw [List.getElem?_append_left (by rw [h.fl]; exact c)] at hj
        rw [List.getElem?_append_left c] at hp
        rw [List.take_append_of_le_length (by omega)]
        exact h.fd j r p hj hp
      · obtain rfl : j = l.length := by omega
        rw [List.getElem?_append_right (by rw [h.fl]; exact Nat.le_refl _), h.fl, Nat.sub_self] at hj
        rw [List.getElem?_append_right (Nat.le_refl _), Nat.sub_self] at hp
        obtain rfl := Option.some.inj hj
        obtain rfl := Option.some.inj hp
        rw [List.take_append_of_le_length (Nat.le_refl _), List.take_length]
        exact ⟨q1, e1, q2⟩
    · show (List.map _ _).length = _
      rw [List.length_map, List.length_append, List.length_append, List.length_take, List.length_take, List.length_drop, List.length_drop, h.rl]
    · have hj : ((s.rs.take i ++ s.rs.drop (i + 1)).map fun r => redR r s.rs[i] m s.dv)[j]? = some r := hj
      rw [List.getElem?_map] at hj
      obtain ⟨r0, hr0, rfl⟩ := Option.map_eq_some_iff.mp hj
      rw [at_take_drop il] at hr0
      rw [at_take_drop xl] at hx'
      have r0l : r0.length = w := by
        split at hr0
        · exact lw _ _ hr0
        · exact lw _ _ hr0
      have p0 : gI r0 = Dl (fnl l) (gI x) ∧ ∀ j, j < m → gI r0 j = 0 := by
        split at hr0
        · rename_i c; rw [if_pos c] at hx'; exact h.rs _ _ _ hr0 hx'
        · rename_i c; rw [if_neg c] at hx'; exact h.rs _ _ _ hr0 hx'
      have l2 : (fnl l).length ≤ 2 := by
        rw [List.length_map]
        have : 2 ≤ xs.length := by
          split at hx'
          · rename_i c; have := (List.getElem?_eq_some_iff.mp hx').1; omega
          · rename_i c; have := (List.getElem?_eq_some_iff.mp hx').1; omega
        omega
      have st : ∀ t, Dl (fnl l ++ [(gI xs[i], m)]) (gI x) t * PvL (fnl l) = gI s.rs[i] m * gI r0 t - gI r0 m * gI s.rs[i] t := fun t => by
        have := Dl_step (l := fnl l) (h := gI xs[i]) (x := gI x) (c := m) (j := t) l2
        rw [← q1, ← p0.1] at this
        exact this
      have key : ∀ t, gI (redR r0 s.rs[i] m s.dv) t = Dl (fnl l ++ [(gI xs[i], m)]) (gI x) t := fun t => by
        rw [gI_red r0l (lw i _ hr) hm]
        by_cases c : t ≤ m
        · rw [if_pos c]
          have z : gI s.rs[i] m * gI r0 t - gI r0 m * gI s.rs[i] t = 0 := by
            rcases Nat.lt_or_ge t m with q | q
            · rw [p0.2 t q, q2 t q]; simp
            · obtain rfl : t = m := by omega
              rw [Int.mul_comm]; omega
          have := st t
          rw [z] at this
          rcases Int.mul_eq_zero.mp this with q | q
          · exact q.symm
          · exact absurd q pl
        · rw [if_neg c, ← st t, h.dv]
          exact Int.mul_fdiv_cancel _ pl
      refine ⟨by rw [fe]; exact funext key, fun t ht => ?_⟩
      rw [gI_red r0l (lw i _ hr) hm, if_pos (by omega)]
    · rcases List.mem_append.mp hp with z | z
      · exact Nat.lt_succ_of_lt (h.lt p z)
      · rw [List.mem_singleton.mp z]; exact Nat.lt_succ_self _
    · rw [List.map_append, List.pairwise_append]
      refine ⟨h.sr, by simp, fun a ha b hb => ?_⟩
      obtain ⟨p, hp, rfl⟩ := List.mem_map.mp ha
      have hb : b ∈ [m] := hb
      rw [List.mem_singleton.mp hb]
      exact h.lt p hp
theorem ei_all {w : Nat} {og : List IR} (hw : ∀ r ∈ og, r.length = w) (o4 : og.length ≤ 4) : ∀ n, n ≤ w → ∃ l xs, EI w og n (ech og n) l xs
  | 0, _ => ⟨[], og, ei_0 hw o4⟩
  | n + 1, hn => by
    obtain ⟨l, xs, h⟩ := ei_all hw o4 n (by omega)
    obtain ⟨l', xs', h', _⟩ := ei_step h (show n < w by omega)
    refine ⟨l', xs', ?_⟩
    have : ech og (n + 1) = echS (ech og n) n := by unfold ech; rw [List.range_succ, List.foldl_append]; rfl
    rw [this]
    exact h'
end Cs
set_option maxHeartbeats 4000000
namespace Cs
/-! ### what the pivots' rows say; the factors of the pivots -/
def Fs : List (Nat × Int) → Fn → Int
  | [], _ => 0
  | p :: t, x => x p.1 * p.2 + Fs t x
theorem Fs_comb (t : List (Nat × Int)) (x y z u : Fn) (a b c d : Int) : Fs t (fun j => a * x j + b * y j + c * z j + d * u j) = a * Fs t x + b * Fs t y + c * Fs t z + d * Fs t u := by
  induction t with
  | nil => show (0 : Int) = a * 0 + b * 0 + c * 0 + d * 0; omega
  | cons p t ih =>
    show (a * x p.1 + b * y p.1 + c * z p.1 + d * u p.1) * p.2 + Fs t _ = a * (x p.1 * p.2 + Fs t x) + b * (y p.1 * p.2 + Fs t y) + c * (z p.1 * p.2 + Fs t z) + d * (u p.1 * p.2 + Fs t u)
    rw [ih]
    grind
theorem Fs_app (s t : List (Nat × Int)) (x : Fn) : Fs (s ++ t) x = Fs s x + Fs t x := by
  induction s with
  | nil => show Fs t x = 0 + Fs t x; omega
  | cons p s ih => show x p.1 * p.2 + Fs (s ++ t) x = (x p.1 * p.2 + Fs s x) + Fs t x; rw [ih]; omega
theorem Fs_zero {t : List (Nat × Int)} {x : Fn} (h : ∀ p ∈ t, x p.1 = 0) : Fs t x = 0 := by
  induction t with
  | nil => rfl
  | cons p t ih =>
    show x p.1 * p.2 + Fs t x = 0
    rw [h p (List.mem_cons_self ..), ih fun q m => h q (List.mem_cons_of_mem _ m)]
    omega
theorem Fs_D {t : List (Nat × Int)} {l : Pvs} (k : l.length ≤ 3) (h : ∀ p ∈ l, Fs t p.1 = 0) (x : Fn) : Fs t (Dl l x) = PvL l * Fs t x := by
  match l, k, h with
  | [], _, _ => show Fs t x = 1 * Fs t x; omega
  | [(p, a)], _, h =>
    have h1 := h (p, a) (List.mem_cons_self ..)
    have e : Dl [(p, a)] x = fun j => p a * x j + (-(x a)) * p j + 0 * x j + 0 * x j := funext fun j => by show p a * x j - p j * x a = _; grind
    rw [e, Fs_comb, show Fs t p = 0 from h1]
    show _ = p a * Fs t x
    omega
  | [(p, a), (q, b)], _, h =>
    have h1 : Fs t p = 0 := h (p, a) (List.mem_cons_self ..)
    have h2 : Fs t q = 0 := h (q, b) (List.mem_cons_of_mem _ (List.mem_cons_self ..))
    have e : Dl [(p, a), (q, b)] x = fun j => (p a * q b - p b * q a) * x j + (-(p a * x b - p b * x a)) * q j + (q a * x b - q b * x a) * p j + 0 * x j := funext fun j => by show D3f _ _ _ _ _ _ _ _ _ = _; unfold D3f; grind
    rw [e, Fs_comb, h1, h2]
    show _ = (p a * q b - p b * q a) * Fs t x
    omega
  | [(p, a), (q, b), (r, c)], _, h =>
    have h1 : Fs t p = 0 := h (p, a) (List.mem_cons_self ..)
    have h2 : Fs t q = 0 := h (q, b) (List.mem_cons_of_mem _ (List.mem_cons_self ..))
    have h3 : Fs t r = 0 := h (r, c) (List.mem_cons_of_mem _ (List.mem_cons_of_mem _ (List.mem_cons_self ..)))
    have e : Dl [(p, a), (q, b), (r, c)] x = fun j => D3f (p a) (p b) (p c) (q a) (q b) (q c) (r a) (r b) (r c) * x j + (-(D3f (p a) (p b) (p c) (q a) (q b) (q c) (x a) (x b) (x c))) * r j + D3f (p a) (p b) (p c) (r a) (r b) (r c) (x a) (x b) (x c) * q j + (-(D3f (q a) (q b) (q c) (r a) (r b) (r c) (x a) (x b) (x c))) * p j := funext fun j => by
      show D4f _ _ _ _ _ _ _ _ _ _ _ _ _ _ _ _ = _; unfold D4f D3f; grind
    rw [e, Fs_comb, h1, h2, h3]
    show _ = D3f (p a) (p b) (p c) (q a) (q b) (q c) (r a) (r b) (r c) * Fs t x
    omega
/-- the factors of the pivots that make a column, times the last pivot -/
def crm : Pvs → Nat → List Int
  | [(h, a)], j => [h j]
  | [(h, a), (g, b)], j => [h j * g b - h b * g j, h a * g j - h j * g a]
  | [(h, a), (g, b), (f, c)], j => [D3f (h j) (h b) (h c) (g j) (g b) (g c) (f j) (f b) (f c), D3f (h a) (h j) (h c) (g a) (g j) (g c) (f a) (f j) (f c), D3f (h a) (h b) (h j) (g a) (g b) (g j) (f a) (f b) (f j)]
  | [(h, a), (g, b), (f, c), (e, d)], j => [D4f (h j) (h b) (h c) (h d) (g j) (g b) (g c) (g d) (f j) (f b) (f c) (f d) (e j) (e b) (e c) (e d), D4f (h a) (h j) (h c) (h d) (g a) (g j) (g c) (g d) (f a) (f j) (f c) (f d) (e a) (e j) (e c) (e d), D4f (h a) (h b) (h j) (h d) (g a) (g b) (g j) (g d) (f a) (f b) (f j) (f d) (e a) (e b) (e j) (e d), D4f (h a) (h b) (h c) (h j) (g a) (g b) (g c) (g j) (f a) (f b) (f c) (f j) (e a) (e b) (e c) (e j)]
  | _, _ => []
theorem crm_len {l : Pvs} (k : l.length ≤ 4) (j : Nat) : (crm l j).length = l.length := by
  match l, k with
  | [], _ => rfl
  | [_], _ => rfl
  | [_, _], _ => rfl
  | [_, _, _], _ => rfl
  | [_, _, _, _], _ => rfl
theorem crm_ok {l : Pvs} (k : l.length ≤ 4) (j : Nat) : ∀ p ∈ l, Fs ((l.map (·.2)).zip (crm l j)) p.1 = PvL l * p.1 j := by
  match l, k with
  | [], _ => intro p hp; cases hp
  | [(h, a)], _ =>
    intro p hp
    rw [List.mem_singleton.mp hp]
    show h a * h j + 0 = h a * h j
    omega
  | [(h, a), (g, b)], _ =>
    have key : ∀ x : Fn, (x = h ∨ x = g) → x a * (h j * g b - h b * g j) + (x b * (h a * g j - h j * g a) + 0) = (h a * g b - h b * g a) * x j := by
      rintro x (rfl | rfl) <;> grind
    intro p hp
    refine key p.1 ?_
    simp only [List.mem_cons, List.not_mem_nil, or_false] at hp
    rcases hp with rfl | rfl
    · exact .inl rfl
    · exact .inr rfl
  | [(h, a), (g, b), (f, c)], _ =>
    have key : ∀ x : Fn, (x = h ∨ x = g ∨ x = f) → x a * D3f (h j) (h b) (h c) (g j) (g b) (g c) (f j) (f b) (f c) + (x b * D3f (h a) (h j) (h c) (g a) (g j) (g c) (f a) (f j) (f c) + (x c * D3f (h a) (h b) (h j) (g a) (g b) (g j) (f a) (f b) (f j) + 0)) = D3f (h a) (h b) (h c) (g a) (g b) (g c) (f a) (f b) (f c) * x j := by
      unfold D3f
      rintro x (rfl | rfl | rfl) <;> grind
    intro p hp
    refine key p.1 ?_
    simp only [List.mem_cons, List.not_mem_nil, or_false] at hp
    rcases hp with rfl | rfl | rfl
    · exact .inl rfl
    · exact .inr (.inl rfl)
    · exact .inr (.inr rfl)
  | [(h, a), (g, b), (f, c), (e, d)], _ =>
    have key : ∀ x : Fn, (x = h ∨ x = g ∨ x = f ∨ x = e) → x a * D4f (h j) (h b) (h c) (h d) (g j) (g b) (g c) (g d) (f j) (f b) (f c) (f d) (e j) (e b) (e c) (e d) + (x b * D4f (h a) (h j) (h c) (h d) (g a) (g j) (g c) (g d) (f a) (f j) (f c) (f d) (e a) (e j) (e c) (e d) + (x c * D4f (h a) (h b) (h j) (h d) (g a) (g b) (g j) (g d) (f a) (f b) (f j) (f d) (e a) (e b) (e j) (e d) + (x d * D4f (h a) (h b) (h c) (h j) (g a) (g b) (g c) (g j) (f a) (f b) (f c) (f j) (e a) (e b) (e c) (e j) + 0))) = D4f (h a) (h b) (h c) (h d) (g a) (g b) (g c) (g d) (f a) (f b) (f c) (f d) (e a) (e b) (e c) (e d) * x j := by
      unfold D4f D3f
      rintro x (rfl | rfl | rfl | rfl) <;> grind
    intro p hp
    refine key p.1 ?_
    simp only [List.mem_cons, List.not_mem_nil, or_false] at hp
    rcases hp with rfl | rfl | rfl | rfl
    · exact .inl rfl
    · exact .inr (.inl rfl)
    · exact .inr (.inr (.inl rfl))
    · exact .inr (.inr (.inr rfl))
/-- the factors, found from the last one on -/
def nmb (whole : Int) (col : Nat) : List (IR × Nat) → List Int
  | [] => []
  | p :: rest => Int.fdiv (whole * gI p.1 col - Fs ((rest.map (·.2)).zip (nmb whole col rest)) (gI p.1)) (gI p.1 p.2) :: nmb whole col rest
theorem nmb_eq {whole : Int} {col : Nat} : ∀ {rows : List (IR × Nat)} {N : List Int}, rows.length = N.length → (∀ (i : Nat) p, rows[i]? = some p → gI p.1 p.2 ≠ 0 ∧ Fs (((rows.drop i).map (·.2)).zip (N.drop i)) (gI p.1) = whole * gI p.1 col) → nmb whole col rows = N
  | [], [], _, _ => rfl
  | p :: rest, n :: N, hl, h => by
    have ih : nmb whole col rest = N := nmb_eq (by simpa using hl) fun i q hq => by
      have := h (i + 1) q (by rw [List.getElem?_cons_succ]; exact hq)
      rw [List.drop_succ_cons, List.drop_succ_cons] at this
      exact this
    obtain ⟨h1, h2⟩ := h 0 p rfl
    have h2 : gI p.1 p.2 * n + Fs ((rest.map (·.2)).zip N) (gI p.1) = whole * gI p.1 col := h2
    show Int.fdiv (whole * gI p.1 col - Fs ((rest.map (·.2)).zip (nmb whole col rest)) (gI p.1)) (gI p.1 p.2) :: nmb whole col rest = n :: N
    rw [ih, ← h2, Int.add_sub_cancel]
    congr 1
    rw [Int.mul_comm]
    exact Int.mul_fdiv_cancel _ h1
section
variable {w n : Nat} {og : List IR} {s : Sy} {l : Lp} {xs : List IR}
theorem EI.len (h : EI w og n s l xs) : (fnl l).length ≤ 4 := by rw [List.length_map]; have := h.cnt; omega
theorem EI.ogm (h : EI w og n s l xs) {x : IR} (m : x ∈ og) : (∃ p ∈ l, p.1 = x) ∨ x ∈ xs := by
  rcases List.mem_append.mp (h.pm.mem_iff.mp m) with q | q
  · obtain ⟨p, hp, rfl⟩ := List.mem_map.mp q
    exact .inl ⟨p, hp, rfl⟩
  · exact .inr q
theorem take_fnl (l : Lp) (i : Nat) : fnl (l.take i) = (fnl l).take i := List.map_take
/-- the last item of the echelon -/
theorem EI.last (h : EI w og n s l xs) {i : Nat} {r : IR} {p : IR × Nat} (hr : s.fd[i]? = some r) (hp : l[i]? = some p) (hi : i + 1 = l.length) : gI r p.2 = PvL (fnl l) := by
  obtain ⟨h1, _, _⟩ := h.fd i r p hr hp
  have e : l = l.take i ++ [p] := by
    have this : l.take (i + 1) = l := by rw [hi, List.take_length]
    rw [List.take_add_one, hp] at this
    exact this.symm
  have c4 := h.cnt
  have e2 : fnl l = fnl (l.take i) ++ [(gI p.1, p.2)] := by
    conv => lhs; rw [e]
    show List.map _ _ = _
    rw [List.map_append]; rfl
  rw [e2, PvL_snoc (by rw [List.length_map, List.length_take]; omega), h1]
/-- the factors of the pivots make the column, in every row -/
theorem EI.cram (h : EI w og n s l xs) {col : Nat} (hz : ∀ r ∈ s.rs, gI r col = 0) : nmb (PvL (fnl l)) col (s.fd.zip s.pv) = crm (fnl l) col ∧ ∀ x ∈ og, Fs (s.pv.zip (nmb (PvL (fnl l)) col (s.fd.zip s.pv))) (gI x) = PvL (fnl l) * gI x col := by
  have l4 := h.len
  have c4 := h.cnt
  let N := crm (fnl l) col
  have Nl : N.length = l.length := by rw [crm_len l4, List.length_map]
  have pve : (fnl l).map (·.2) = l.map (·.2) := by rw [List.map_map]; rfl
  let t : List (Nat × Int) := (s.pv.zip N) ++ [(col, -(PvL (fnl l)))]
  have tF : ∀ x : Fn, Fs t x = Fs (s.pv.zip N) x - PvL (fnl l) * x col := fun x => by
    rw [Fs_app]
    show _ + (x col * -(PvL (fnl l)) + 0) = _
    grind
  have hl : ∀ p ∈ fnl l, Fs t p.1 = 0 := fun p hp => by
    rw [tF, h.pv, ← pve, crm_ok l4 col p hp]
    omega
  have hfd : ∀ (i : Nat) r p, s.fd[i]? = some r → l[i]? = some p → Fs t (gI r) = 0 := fun i r p hr hp => by
    obtain ⟨h1, _, _⟩ := h.fd i r p hr hp
    have il := (List.getElem?_eq_some_iff.mp hp).1
    rw [h1, Fs_D (by rw [List.length_map, List.length_take]; omega) (fun q hq => hl q (by rw [take_fnl] at hq; exact List.mem_of_mem_take hq))]
    rw [hl (gI p.1, p.2) (List.mem_map.mpr ⟨p, List.mem_of_getElem? hp, rfl⟩)]
    omega
  have e : nmb (PvL (fnl l)) col (s.fd.zip s.pv) = N := by
    refine nmb_eq (by rw [List.length_zip, h.fl, h.pv, List.length_map, Nl]; omega) fun i q hq => ?_
    obtain ⟨r, c⟩ := q
    rw [List.getElem?_zip_eq_some] at hq
    obtain ⟨hr, hc⟩ := hq
    rw [h.pv, List.getElem?_map] at hc
    obtain ⟨p, hp, rfl⟩ := Option.map_eq_some_iff.mp hc
    obtain ⟨_, h2, h3⟩ := h.fd i r p hr hp
    refine ⟨h2, ?_⟩
    have il := (List.getElem?_eq_some_iff.mp hp).1
    have z := hfd i r p hr hp
    rw [tF] at z
    have fz : (s.fd.zip s.pv).map (·.2) = s.pv := by rw [List.map_snd_zip]; rw [h.fl, h.pv, List.length_map]; exact Nat.le_refl _
    have dr : ((s.fd.zip s.pv).drop i).map (·.2) = s.pv.drop i := by rw [List.map_drop, fz]
    rw [dr]
    have sp : s.pv.zip N = (s.pv.take i).zip (N.take i) ++ (s.pv.drop i).zip (N.drop i) := by
      conv => lhs; rw [← List.take_append_drop i s.pv, ← List.take_append_drop i N]
      rw [List.zip_append]
      rw [List.length_take, List.length_take, h.pv, List.length_map, Nl]
    rw [sp, Fs_app, Fs_zero (t := (s.pv.take i).zip (N.take i)) (fun q hq => ?_)] at z
    · have z : 0 + Fs ((s.pv.drop i).zip (N.drop i)) (gI r) - PvL (fnl l) * gI r col = 0 := z
      show Fs ((s.pv.drop i).zip (N.drop i)) (gI r) = PvL (fnl l) * gI r col
      omega
    · obtain ⟨a, b⟩ := q
      have ha := (List.of_mem_zip hq).1
      refine h3 a ?_
      obtain ⟨j, hj⟩ := List.mem_iff_getElem?.mp ha
      rw [List.getElem?_take] at hj
      split at hj
      · rename_i ji
        rw [h.pv] at hj
        have sr := List.pairwise_iff_getElem.mp h.sr j i (by rw [List.length_map]; omega) (by rw [List.length_map]; exact il) ji
        have e1 := (List.getElem?_eq_some_iff.mp hj).2
        rw [e1] at sr
        rw [List.getElem_map] at sr
        rw [(List.getElem?_eq_some_iff.mp hp).2] at sr
        exact sr
      · cases hj
  refine ⟨e, fun x hx => ?_⟩
  rw [e]
  have z : Fs t (gI x) = 0 := by
    rcases h.ogm hx with ⟨p, hp, rfl⟩ | hx
    · exact hl _ (List.mem_map.mpr ⟨p, hp, rfl⟩)
    · obtain ⟨i, hi⟩ := List.mem_iff_getElem?.mp hx
      have il := (List.getElem?_eq_some_iff.mp hi).1
      have sl : i < s.rs.length := by rw [h.rl]; exact il
      have hr : s.rs[i]? = some s.rs[i] := List.getElem?_eq_getElem sl
      obtain ⟨q1, q2⟩ := h.rs i _ x hr hi
      have l3 : (fnl l).length ≤ 3 := by rw [List.length_map]; omega
      have fd := Fs_D (t := t) l3 hl (gI x)
      rw [← q1] at fd
      have f0 : Fs t (gI s.rs[i]) = 0 := Fs_zero fun p hp => by
        rcases List.mem_append.mp hp with m | m
        · obtain ⟨a, b⟩ := p
          have ha := (List.of_mem_zip m).1
          rw [h.pv] at ha
          obtain ⟨p', hp', rfl⟩ := List.mem_map.mp ha
          exact q2 _ (h.lt p' hp')
        · rw [List.mem_singleton.mp m]
          exact hz _ (List.getElem_mem _)
      rw [f0] at fd
      rcases Int.mul_eq_zero.mp fd.symm with q | q
      · exact absurd (h.dv.trans q) h.d0
      · exact q
  rw [tF] at z
  have z : Fs (s.pv.zip N) (gI x) - PvL (fnl l) * gI x col = 0 := z
  show Fs (s.pv.zip N) (gI x) = PvL (fnl l) * gI x col
  omega
end
end Cs
set_option maxHeartbeats 4000000
namespace Cs
/-! ### sums of products, and their sizes -/
theorem szA2 {n m : Nat} {r s : Rat} (h : Sz n r) (g : Sz m s) : Sz (n + m + 1) (r + s) := by
  rw [← add_div]
  refine sz_div (Int.mul_ne_zero (den_ne _) (den_ne _)) (add_lt (pow_lt h.nn g.dd) ?_) (Nat.lt_of_lt_of_le (pow_lt h.dd g.dd) (Nat.pow_le_pow_right (by decide) (by omega)))
  rw [Nat.add_comm n m]
  exact pow_lt g.nn h.dd
theorem szM2 {n m : Nat} {r s : Rat} (h : Sz n r) (g : Sz m s) : Sz (n + m) (r * s) := by
  rw [← mul_div]
  exact sz_div (Int.mul_ne_zero (den_ne _) (den_ne _)) (pow_lt h.nn g.nn) (pow_lt h.dd g.dd)
def dotR (a b : List Rat) : Rat := rsum ((a.zip b).map fun p => p.1 * p.2)
theorem sz_preK {b : Nat} {xs : List Rat} (h : ∀ r ∈ xs, Sz b r) (k : Nat) : Sz ((b + 1) * k + 1) (rpre xs k) := by
  induction k with
  | zero => rw [rpre_zero]; exact sz_zero (by omega)
  | succ k ih =>
    cases e : xs[k]? with
    | none =>
      have : rpre xs (k + 1) = rpre xs k := by
        unfold rpre
        rw [List.getElem?_eq_none_iff] at e
        rw [List.take_of_length_le e, List.take_of_length_le (by omega)]
      rw [this]
      refine ih.mono ?_
      rw [Nat.mul_succ]; omega
    | some x =>
      rw [rpre_succ e]
      refine (szA2 ih (h x (List.mem_of_getElem? e))).mono ?_
      rw [Nat.mul_succ]; omega
theorem sz_pre {b : Nat} {xs : List Rat} (h : ∀ r ∈ xs, Sz b r) (hb : 1 ≤ b) (hl : xs.length ≤ 4) (k : Nat) : Sz (4 * b + 5) (rpre xs k) := by
  rcases Nat.lt_or_ge k 5 with q | q
  · refine (sz_preK h k).mono ?_
    have := Nat.mul_le_mul_left (b + 1) (show k ≤ 4 by omega)
    omega
  · have : rpre xs k = rpre xs 4 := by
      unfold rpre
      rw [List.take_of_length_le (by omega), List.take_of_length_le hl]
    rw [this]
    refine (sz_preK h 4).mono ?_
    omega
theorem getD_mem {α : Type} {xs : List α} {i : Nat} {d : α} (h : i < xs.length) : xs.getD i d ∈ xs := by
  rw [List.getD_eq_getElem?_getD, List.getElem?_eq_getElem h]
  exact List.getElem_mem h
end Cs
set_option maxHeartbeats 4000000
namespace Cs
open PySem PySem.Spec PyProof.Rows L2
/-! ### sums of interests have one common divisor -/
def Dq : Int := 2052993600000
def Bq (n : Nat) (r : Rat) : Prop := ∃ z : Int, z.natAbs ≤ n * 2 ^ 64 ∧ r = Rat.divInt z Dq
theorem Bq.sz {n : Nat} {r : Rat} (h : Bq n r) (hn : n ≤ 2 ^ 20) : Sz 100 r := by
  obtain ⟨z, hz, rfl⟩ := h
  refine sz_div (by decide) ?_ (by decide)
  have h1 : n * 2 ^ 64 ≤ 2 ^ 20 * 2 ^ 64 := Nat.mul_le_mul_right _ hn
  have h2 : (2 : Nat) ^ 20 * 2 ^ 64 < 2 ^ 100 := by decide
  omega
theorem Bq.zero : Bq 0 0 := ⟨0, by decide, by rw [Rat.divInt_eq_div]; grind⟩
theorem Bq.add {n m : Nat} {r s : Rat} (h : Bq n r) (g : Bq m s) : Bq (n + m) (r + s) := by
  obtain ⟨z, hz, rfl⟩ := h
  obtain ⟨w, hw, rfl⟩ := g
  refine ⟨z + w, by rw [Nat.add_mul]; have := Int.natAbs_add_le z w; omega, ?_⟩
  rw [Rat.divInt_eq_div, Rat.divInt_eq_div, Rat.divInt_eq_div, Rat.intCast_add]
  grind
theorem Bq.mono {n m : Nat} {r : Rat} (h : Bq n r) (k : n ≤ m) : Bq m r := by
  obtain ⟨z, hz, e⟩ := h
  exact ⟨z, Nat.le_trans hz (Nat.mul_le_mul_right _ k), e⟩
theorem Bq.sum {n : Nat} : ∀ {rs : List Rat}, (∀ r ∈ rs, Bq n r) → Bq (n * rs.length) (rsum rs)
  | [], _ => Bq.zero
  | r :: rs, h => by
    rw [rsum_cons]
    have := (h r (List.mem_cons_self ..)).add (Bq.sum fun s m => h s (List.mem_cons_of_mem _ m))
    refine this.mono ?_
    rw [List.length_cons, Nat.mul_add]
    omega
def Fq (r : Rat) : Prop := ∃ f : Int, f.natAbs ≤ 1200 ∧ r = Rat.divInt f 6
def Rq (r : Rat) : Prop := ∃ q : Int, q.natAbs ≤ 11 ∧ r = Rat.divInt q 100
theorem Fq.sz {r : Rat} (h : Fq r) : Sz 100 r := by
  obtain ⟨z, hz, rfl⟩ := h
  exact sz_div (by decide) (Nat.lt_of_le_of_lt hz (by decide)) (by decide)
theorem Rq.sz {r : Rat} (h : Rq r) : Sz 100 r := by
  obtain ⟨z, hz, rfl⟩ := h
  exact sz_div (by decide) (Nat.lt_of_le_of_lt hz (by decide)) (by decide)
end Cs
set_option maxHeartbeats 4000000
set_option maxHeartbeats 4000000
namespace Cs
open PySem PySem.Spec PyProof.Rows L2
/-! ### fresh lists that are changed later -/
section
variable {α β γ : Type} {W : Wd} {K : PySem.W.Frag} {ta tb td ty : TE} {t : Ty α} {u : Ty β} {x : α} {y : β} {ar : TA} {xs : List α} {n : Nat} {us : TS} {D : Ends} {E : XK} {i : Int} {z : Str}
/-! ### dicts by numbers -/
def MpAt (t : Ty α) (F : Hp) (ov : Option V) (ox : Option α) : Prop := match ox with
  | none => ov = none
  | some x => ∃ u, ov = some u ∧ t.r F u x
theorem MpAt.mono {F F' : Hp} {ov : Option V} {ox : Option α} (e : Same F F') (h : MpAt t F ov ox) : MpAt t F' ov ox := by
  cases ox with
  | none => exact h
  | some x =>
    obtain ⟨u, h1, h2⟩ := h
    exact ⟨u, h1, t.mono e h2⟩
/-! ### a text or None -/
end
end Cs
set_option maxHeartbeats 4000000
namespace Cs
open PySem PySem.Spec PyProof.Rows L2
/-! ### own defs called with keywords -/
def CalK (P : Program) (w : World) (K : PySem.W.Frag) (mg : Str → Option Value) (base : Heap) (k : Nat) (x : Str) (ps : List Str) (n : Nat) (ks : List Str) (sp : Sp) : Prop :=
  ∃ (f : Addr) (fd : FuncData), FnOk P w K mg base CX0 k f fd ps sp ∧ mg x = some (.ref f) ∧ PySem.W.keepIn K (.ref f) = true ∧ KBn K fd ps n ks (fun us ws => us ++ ws) (fun vs zs => vs ++ zs)
theorem CalK.mono {P : Program} {w : World} {K : PySem.W.Frag} {mg : Str → Option Value} {base : Heap} {j k n : Nat} {x : Str} {ps ks : List Str} {sp : Sp} (c : CalK P w K mg base j x ps n ks sp) (h : j ≤ k) : CalK P w K mg base k x ps n ks sp := by
  obtain ⟨f, fd, F, g⟩ := c
  exact ⟨f, fd, F.mono h, g⟩
end Cs
set_option maxHeartbeats 4000000
namespace Cs
open PySem PySem.Spec PyProof.Rows L2 GenW
/-! ### sum of a generator expression of any element -/
/-- the cell in which the sum stands -/
def sumO (acc : Int) (t : Tok) (c : Nat) : Obj := { cls := .type "list", dict := none, data := .seq #[.int acc t] c, slots := #[] }
structure WokeS (S : Addr) (acc : Int) (s s' : Shared) : Prop where
  os : s'.os = s.os
  bare : AllBare s'.gens
  keep : ∀ b o, b ≠ S → s.heap.get? b = some o → s'.heap.get? b = some o
  own : ∃ t c, s'.heap.get? S = some (sumO acc t c)
/-- running: the cell holds acc -/
def GIs (X : Cx) (S : Addr) (acc : Int) (σ : L2.St) (H : Hp) (s : Shared) : Prop := ∃ t c, Inv X [(S, sumO acc t c)] σ H s
/-- no address of the frame's -/
def ApartS (X : Cx) (S : Addr) : Prop := X.s_0.heap.objs.size ≤ S ∧ S ≠ X.env.locals ∧ ∀ x c, X.env.cells.lookup x = some c → c ≠ S
theorem inv_wokeS {X : Cx} {S : Addr} {acc acc' : Int} {t : Tok} {c : Nat} {ip : List (Addr × Obj)} {σ : L2.St} {H : Hp} {s s' : Shared} (hpn : ∀ p ∈ X.pn, p.1 ≠ S) (hip : ∀ p ∈ ip, p.1 ≠ S) (hA : ApartS X S) (I : Inv X ((S, sumO acc t c) :: ip) σ H s) (z : WokeS S acc' s s') :
    ∃ t' c', Inv X ((S, sumO acc' t' c') :: ip) σ H s' := by
  obtain ⟨eS, hS0, hSL, hSf, _⟩ := I.pin (S, sumO acc t c) (List.mem_append_right _ (List.mem_cons_self ..))
  have eS : s.heap.get? S = some (sumO acc t c) := eS
  have hS0 : H S = none := hS0
  have hSL : S ≠ X.env.locals := hSL
  have hSf : S ∉ X.fs := hSf
  have I0 : Inv X ip σ H s := I.pins_of fun p hp => I.pin p (List.mem_append_right _ (List.mem_cons_of_mem _ hp))
  have nt : ∀ b u, H b = some u → b ≠ S := fun b u q hb => by rw [hb, hS0] at q; cases q
  obtain ⟨z1, z2, z3, t', c', eS'⟩ := z
  obtain ⟨hh, g, d, tk, o⟩ := s'
  have ho : o = s.os := z1
  subst ho
  have nc : ∀ b, b ∉ [S] → b ≠ S := fun b hb e => hb (by rw [e]; exact List.mem_singleton.mpr rfl)
  have J : Inv X ip σ H { s with heap := hh, gens := g, drawn := d, toks := tk } := by
    refine I0.step (g' := g) (t' := tk) (d' := d) (ch := [S]) (fun b hb => ?_)
      (fun b ob _ _ hc q _ => z3 b ob (nc b hc) q) (fun b ob _ _ hc q _ => ⟨ob.slots, z3 b ob (nc b hc) q⟩) (fun _ _ _ _ n => n) (fun b ob hc q => ⟨ob, z3 b ob (nc b hc) q⟩)
      (fun _ _ q => q) (fun _ _ _ q => q) (fun b ps q => ⟨#[], by rw [q]; simp⟩) (fun m hm => ?_) (fun b u q => ?_) z2
    · rw [List.mem_singleton.mp hb]
      refine ⟨.inr hA.1, hA.2.1, hA.2.2, fun p hp => ?_⟩
      rcases List.mem_append.mp hp with hp | hp
      · exact hpn p hp
      · exact hip p hp
    · obtain ⟨ob, es, ep, ho, r⟩ := hm
      exact ⟨ob, es, ep, z3 _ ob (Ne.symm hSL) ho, r⟩
    · refine (I0.hok b u q).stay (fun c v hc y => z3 c v ?_ y) (fun _ y => y) fun _ _ y => y
      rcases hc with y | y
      · rw [y]; exact nt b u q
      · exact nt c _ y
  refine ⟨t', c', J.pins_of fun p hp => ?_⟩
  rcases List.mem_cons.mp hp with hp | hp
  · rw [hp]
    exact ⟨eS', hS0, hSL, hSf, fun v q => by cases q⟩
  · exact J.pin p (List.mem_append_right _ hp)
def RXs (S : Addr) (F : Int → Shared → Prop) : GenEnd := fun _ s₀ r s₁ => ((r = .ok (.ret .none) ∨ r = .ok .next) ∧ s₁.heap.get? S = s₀.heap.get? S ∧ ∃ acc t c, s₁.heap.get? S = some (sumO acc t c) ∧ F acc s₁) ∨ ∃ e, r = .error e ∧ False
def YXs (S : Addr) (a : Addr) (g : Nat) : Protocol := fun _ s₀ v s₁ kap =>
  ∃ i t acc t' c, v = .int i t ∧ AllBare s₁.gens ∧ s₁.heap.NoLimit ∧ s₁.heap.IsGen a g ∧ s₁.heap.get? S = s₀.heap.get? S ∧ s₁.heap.get? S = some (sumO acc t' c) ∧ ∀ s', WokeS S (acc + i) s₁ s' → kap (.send .none) s'
section
variable {Xg : Cx} {A : Around} {elt tg iter : Expr} {ifs : List Expr} {scope : Scope} {pos : Pos} {it a S : Addr} {gn : Nat} {J : It} {fp : List Addr} {tn : Nat → Heap → Prop} {g : TG} {tt : TT} {te : TE} {σ0 : L2.St} {W : Nat → Nat → Int → Hp → Prop} {Qe : Int → Hp → Prop} {own : List Nat}
/-- what the turns want -/
def GxTurnS (J : It) (g : TG) (tt : TT) (te : TE) (σ0 : L2.St) (own : List Nat) (Qe : Int → Hp → Prop) (W : Nat → Nat → Int → Hp → Prop) : Prop := ∀ i m acc H, W i m acc H → (J.stop i H ∧ Qe acc H) ∨ (J.go i H ∧ ∃ Nx : Int → Hp → Prop, (∀ acc' H', Nx acc' H' → ∃ m', m' < m ∧ W (i + 1) m' acc' H') ∧
  ∀ x H', J.yld i H x H' → g x σ0 H' fun σ2 H2 => wipe σ2 own = σ0 ∧ tt σ2 H2 fun b H3 => if b = true then te σ2 H3 fun y H4 => ∃ c, y = .int c ∧ Nx (acc + c) H4 else Nx acc H3)
def GxFs (Xg : Cx) (Qe : Int → Hp → Prop) (b : Int) (s : Shared) : Prop := ∃ σ' H', Inv Xg [] σ' H' s ∧ Qe b H'
theorem seg_gxS (hA : Xg.A = A.deeper Xg.env) (hcalm : Xg.calm = true) (hco : Xg.env.scope.isCoroutine = false) (hex : Xg.ex = fp) (hxe : Xg.xe = fun _ _ => False) (T : Turn Xg.prog Xg.w Xg.K tg J fp it tn) (pg : PG Xg tg g) (pt : PTs Xg ifs tt) (pe : PE Xg elt te)
    (hpn : ∀ b ∈ fp, ∀ p ∈ Xg.pn, p.1 ≠ b) (hgen : ∀ pins σ H s, Inv Xg pins σ H s → s.heap.IsGen a gn) (hSp : ∀ p ∈ Xg.pn, p.1 ≠ S) (hSA : ApartS Xg S) (hSf : S ∉ fp) (turn : GxTurnS J g tt te σ0 own Qe W) :
    ∀ (m n i : Nat) (s₀ s : Shared) (H : Hp) (acc : Int), m < n → GIs Xg S acc σ0 H s → s.heap.get? S = s₀.heap.get? S → tn i s.heap → (∀ b ∈ fp, H b = none) → W i m acc H →
      Seg (model Xg.prog Xg.w) A (RXs S (GxFs Xg Qe)) (YXs S a gn) n s₀ (.compLoop (.GeneratorExp elt [⟨tg, iter, ifs, 0⟩] scope pos) 0 (.ref it) .none Xg.env)
        ((model Xg.prog Xg.w).den (.compLoop (.GeneratorExp elt [⟨tg, iter, ifs, 0⟩] scope pos) 0 (.ref it) .none Xg.env)) [] s := by
  have cv : ∀ {α : Type} {t : Sem α} {Q : α → Shared → Prop} {s : Shared}, wpAny (model Xg.prog Xg.w) Xg.A t Q Xg.xe s → wpAny (model Xg.prog Xg.w) Xg.A t Q (fun _ _ => False) s := fun h => by rw [hxe] at h; exact h
  have stat : ∀ {o : Obj} {σ' : L2.St} {H' : Hp} {s' : Shared}, Inv Xg [(S, o)] σ' H' s' → (∀ b ∈ fp, H' b = none) → ∀ b ∈ fp, FpOk Xg [(S, o)] H' b := fun {o σ' H' s'} I' hn b hb =>
    ⟨hn b hb, (I'.ok.exf b (hex ▸ hb)).1, I'.ok.exfs b (hex ▸ hb), .inl (hex ▸ hb), fun x c e => (I'.ok.exf b (hex ▸ hb)).2 x c e, fun p hp => by
      rcases List.mem_append.mp hp with hp | hp
      · exact hpn b hb p hp
      · rw [List.mem_singleton.mp hp]
        exact fun z => hSf (show S ∈ fp from (show S = b from z) ▸ hb)⟩
  intro m
  induction m using Nat.strongRecOn with
  | ind m ih =>
    intro n i s₀ s H acc hmn ⟨tS, cS, I⟩ eqS st hn w
    have atS : ∀ {ip : List (Addr × Obj)} {σ' : L2.St} {H' : Hp} {s' : Shared}, Inv Xg ((S, sumO acc tS cS) :: ip) σ' H' s' → s'.heap.get? S = some (sumO acc tS cS) := fun {ip σ' H' s'} I' => (I'.pin (S, sumO acc tS cS) (List.mem_append_right _ (List.mem_cons_self ..))).1
    have e0 : s₀.heap.get? S = some (sumO acc tS cS) := eqS ▸ atS I
    show Seg _ A _ _ _ s₀ _ ((compTurn (.GeneratorExp elt [⟨tg, iter, ifs, 0⟩] scope pos) 0 (.ref it) .none Xg.env).onRaise (leaving Xg.env)) [] s
    rw [compTurn_gen, Sem.onRaise_eq_wrap]
    refine seg_bind_wrap (wpAny_standAt ?_)
    rcases turn i m acc H w with ⟨stop, q⟩ | ⟨go, Nx, hNx, step⟩
    · have td := T.done Xg rfl rfl rfl hcalm i [(S, sumO acc tS cS)] s _ H (fun _ _ => False) I (stat I hn) st stop
      refine seg_bind_wrap ?_
      rw [over_gxLoop, ← hA]
      refine thnF td fun r s6 ⟨hr, I6⟩ => ?_
      subst hr
      have e6 := atS (ip := []) I6
      exact seg_end (.ok .next) (.inl ⟨.inr rfl, e6.trans e0.symm, acc, tS, cS, e6, σ0, H, I6.pins_of (fun p z => nomatch z), q⟩)
    · have ti := T.item Xg rfl rfl rfl hcalm i [(S, sumO acc tS cS)] s _ H (fun _ _ => False) I (stat I hn) st go
      refine seg_bind_wrap ?_
      rw [over_gxLoop, ← hA]
      refine thnF ti fun r s6 ⟨u, hr, h6⟩ => ?_
      subst hr
      refine seg_bind_wrap ?_
      rw [over_gxLoop, ← hA]
      refine thnF h6 fun _ s7 ⟨x, H7, I7, r7, y7, st7, n7⟩ => ?_
      have I7' := I7.pinned (stat I7 n7) (T.obj _ _ st7)
      refine seg_bind_wrap ?_
      rw [over_gxLoop, ← hA]
      refine thnF (cv (pg.run _ s7 _ H7 x u _ I7' r7 (step x H7 y7))) fun _ s8 ⟨σ8, H8, I8, hw8, q8⟩ => ?_
      refine seg_bind_wrap ?_
      rw [over_gxLoop, ← hA]
      refine thnF (cv (pt.run _ s8 σ8 H8 _ I8 q8)) fun b s9 ⟨H9, I9, q9⟩ => ?_
      have hip : ∀ p ∈ pinsAt fp s7.heap, p.1 ≠ S := fun p hp z => hSf (z ▸ (of_pinsAt hp).1)
      have fin : ∀ {s' s'' : Shared} {H' : Hp} {acc' : Int}, Inv Xg ([(S, sumO acc tS cS)] ++ pinsAt fp s7.heap) σ8 H' s' → WokeS S acc' s' s'' → Nx acc' H' → ∀ n', m ≤ n' → Seg (model Xg.prog Xg.w) A (RXs S (GxFs Xg Qe)) (YXs S a gn) n' s'' (.compLoop (.GeneratorExp elt [⟨tg, iter, ifs, 0⟩] scope pos) 0 (.ref it) .none Xg.env)
        ((model Xg.prog Xg.w).den (.compLoop (.GeneratorExp elt [⟨tg, iter, ifs, 0⟩] scope pos) 0 (.ref it) .none Xg.env)) [] s'' := fun {s' s'' H' acc'} I' z nx n' hn' => by
        obtain ⟨m', hm, w'⟩ := hNx acc' H' nx
        obtain ⟨t', c', J'⟩ := inv_wokeS hSp hip hSA I' z
        have pin' : ∀ b ∈ fp, ∀ o, s7.heap.get? b = some o → s''.heap.get? b = some o ∧ H' b = none := fun b hb o e =>
          let z := J'.pin (b, o) (List.mem_append_right _ (List.mem_cons_of_mem _ (mem_pinsAt hb e)))
          ⟨z.1, z.2.1⟩
        have hl : σ0.length = σ8.length := by rw [← hw8, wipe_length]
        have I2 : Inv Xg [(S, sumO acc' t' c')] σ0 H' s'' := (Inv.unpinned (pins := [(S, sumO acc' t' c')]) J').weak hl (fun j v e => by rw [← hw8] at e; exact (wipe_some e).1)
        refine ih m' hm n' (i + 1) s'' s'' H' acc' (by omega) ⟨t', c', I2⟩ rfl (T.keep _ _ _ st7 fun b hb o e => (pin' b hb o e).1) (fun b hb => ?_) w'
        obtain ⟨o, e, _⟩ := T.obj _ _ st7 b hb
        exact (pin' b hb o e).2
      have fin0 : ∀ {s' : Shared} {H' : Hp}, Inv Xg ([(S, sumO acc tS cS)] ++ pinsAt fp s7.heap) σ8 H' s' → Nx acc H' → Seg (model Xg.prog Xg.w) A (RXs S (GxFs Xg Qe)) (YXs S a gn) n s₀ (.compLoop (.GeneratorExp elt [⟨tg, iter, ifs, 0⟩] scope pos) 0 (.ref it) .none Xg.env)
        ((model Xg.prog Xg.w).den (.compLoop (.GeneratorExp elt [⟨tg, iter, ifs, 0⟩] scope pos) 0 (.ref it) .none Xg.env)) [] s' := fun {s' H'} I' nx => by
        obtain ⟨m', hm, w'⟩ := hNx acc H' nx
        have pin' : ∀ b ∈ fp, ∀ o, s7.heap.get? b = some o → s'.heap.get? b = some o ∧ H' b = none := fun b hb o e =>
          let z := I'.pin (b, o) (List.mem_append_right _ (List.mem_append_right _ (mem_pinsAt hb e)))
          ⟨z.1, z.2.1⟩
        have hl : σ0.length = σ8.length := by rw [← hw8, wipe_length]
        have I2 : Inv Xg [(S, sumO acc tS cS)] σ0 H' s' := (Inv.unpinned (pins := [(S, sumO acc tS cS)]) I').weak hl (fun j v e => by rw [← hw8] at e; exact (wipe_some e).1)
        refine ih m' hm n (i + 1) s₀ s' H' acc (by omega) ⟨tS, cS, I2⟩ ((atS I').trans e0.symm) (T.keep _ _ _ st7 fun b hb o e => (pin' b hb o e).1) (fun b hb => ?_) w'
        obtain ⟨o, e, _⟩ := T.obj _ _ st7 b hb
        exact (pin' b hb o e).2
      cases b with
      | false =>
        simp only [Bool.false_eq_true, if_false] at q9 ⊢
        exact seg_again rfl (fin0 I9 q9)
      | true =>
        simp only [if_true] at q9 ⊢
        have hy : ∀ v, yieldOut Xg.env v = yieldValue v := fun v => by simp only [yieldOut, hco, Bool.false_eq_true, if_false]
        simp only [hy]
        rw [Sem.bind_eq_wrap', Sem.bind_eq_wrap', Sem.wrap_wrap, Sem.wrap_wrap]
        obtain ⟨n', rfl⟩ : ∃ n', n = n' + 1 := ⟨n - 1, by omega⟩
        refine seg_wrap ?_
        rw [over_gxLoop, ← hA]
        refine thnF (cv (pe.run _ s9 σ8 H9 _ I9 q9)) fun z s10 ⟨yv, H10, I10, r10, c, ey, qc⟩ => ?_
        subst ey
        obtain ⟨tz, rfl⟩ := r10
        refine seg_at (seg_yield rfl rfl rfl ?_)
        have e10 := atS I10
        exact ⟨c, tz, acc, tS, cS, rfl, I10.bare, I10.nolimit, hgen _ _ _ _ I10, e10.trans e0.symm, e10, fun s'' zz => seg_again rfl (fin I10 zz qc n' (by omega))⟩
theorem seg_gxSStart (hA : Xg.A = A.deeper Xg.env) (hcalm : Xg.calm = true) (hco : Xg.env.scope.isCoroutine = false) (hex : Xg.ex = fp) (hxe : Xg.xe = fun _ _ => False) (T : Turn Xg.prog Xg.w Xg.K tg J fp it tn) (pg : PG Xg tg g) (pt : PTs Xg ifs tt) (pe : PE Xg elt te)
    (hpn : ∀ b ∈ fp, ∀ p ∈ Xg.pn, p.1 ≠ b) (hgen : ∀ pins σ H s, Inv Xg pins σ H s → s.heap.IsGen a gn) (hSp : ∀ p ∈ Xg.pn, p.1 ≠ S) (hSA : ApartS Xg S) (hSf : S ∉ fp) (turn : GxTurnS J g tt te σ0 own Qe W) {m n : Nat} {s₀ s : Shared} {H : Hp} {acc : Int} (hmn : m < n) (I : GIs Xg S acc σ0 H s) (eqS : s.heap.get? S = s₀.heap.get? S) (st : tn 0 s.heap) (hn : ∀ b ∈ fp, H b = none) (w : W 0 m acc H) :
    Seg (model Xg.prog Xg.w) A (RXs S (GxFs Xg Qe)) (YXs S a gn) n s₀ (.compStart (.GeneratorExp elt [⟨tg, iter, ifs, 0⟩] scope pos) 0 (.ref it) .none Xg.env)
      ((model Xg.prog Xg.w).den (.compStart (.GeneratorExp elt [⟨tg, iter, ifs, 0⟩] scope pos) 0 (.ref it) .none Xg.env)) [] s := by
  have loop := seg_gxS (iter := iter) (scope := scope) (pos := pos) hA hcalm hco hex hxe T pg pt pe hpn hgen hSp hSA hSf turn m n 0 s₀ s H acc hmn I eqS st hn w
  show Seg _ A _ _ _ s₀ _ ((compStart (.GeneratorExp elt [⟨tg, iter, ifs, 0⟩] scope pos) 0 (.ref it) .none Xg.env).onRaise (leaving Xg.env)) [] s
  unfold compStart
  rw [Sem.onRaise_eq_wrap]
  show Seg _ A _ _ _ s₀ _ ((ask >>= _).wrap _ _ _ _) [] s
  refine seg_bind_wrap (wpAny_askSetting ?_)
  split
  · exact seg_again rfl loop
  · first
      | exact seg_bind_wrap (wpAny_rule (seg_bind_wrap (wpAny_standAt (seg_bind_wrap (T.self _ 0 s _ _ st (seg_again rfl loop))))))
      | (refine seg_bind_wrap (wpAny_rule ?_); show Seg _ A _ _ _ s₀ _ ((standAt iter.pos >>= _).wrap _ _ _ _) [] s; exact seg_bind_wrap (wpAny_standAt (seg_bind_wrap (T.self _ 0 s _ _ st (seg_again rfl loop)))))
end
end Cs
set_option maxHeartbeats 4000000
namespace Cs
open PySem PySem.Spec PyProof.Rows L2 GenW
theorem woke_upd {S : Addr} {acc acc' : Int} {t t' : Tok} {c : Nat} {s : Shared} {G : Array GenState} {tk : Nat} (h : s.heap.get? S = some (sumO acc t c)) (hG : AllBare G) : WokeS S acc' s { s with gens := G, heap := s.heap.update S (Obj.mapSeq fun _ => #[Value.int acc' t']), toks := tk } where
  os := rfl
  bare := hG
  keep := fun b o hb e => (Heap.get?_update_other _ _ (Ne.symm hb)).trans e
  own := ⟨t', _, Heap.get?_update_self _ h rfl⟩
section
variable {P : Program} {w : World} {A : Around} {F : Int → Shared → Prop} {a S : Addr} {gn : Nat} {Res : Result → Shared → Prop}
theorem loop_sum (hh : A.handled = none) (hd : A.depth < recursionLimit) (hSa : S ≠ a) (hSc : S ≠ cStatics) (hFg : ∀ b s G, F b s → AllBare G → F b { s with gens := G }) (hFk : ∀ b (s : Shared) h', F b s → (∀ b o, s.heap.get? b = some o → h'.get? b = some o) → F b { s with heap := h' }) (hFb : ∀ b s, F b s → AllBare s.gens)
    (hR : ∀ b t s, F b s → Res (.ok (.ret (.int b t))) s) : ∀ (n : Nat) (s : Shared) (acc : Int) (tA : Tok) (c : Nat) (st : Int), (st = 0 ∨ st = 2) → s.heap.get? S = some (sumO acc tA c) → s.heap.IsGen a gn → s.heap.NoLimit → (∃ gs, s.gens[gn]? = some gs ∧ gs.Goes (model P w) A.in1.in1 (RXs S F) (YXs S a gn) n (.send .none) (s.setGen gn .running)) →
      codeAny (model P w) A (.builtin "sum.loop" ⟨[.ref a, .ref S, rawInt st, rawInt 0], []⟩) Res s := by
  have fin : ∀ {s s₁ : Shared} {acc : Int} {tA : Tok} {c : Nat} {h' : Heap} , s.heap.get? S = some (sumO acc tA c) → (s₁.heap.get? S = s.heap.get? S ∧ ∃ acc t c, s₁.heap.get? S = some (sumO acc t c) ∧ F acc s₁) → (∀ b o, s₁.heap.get? b = some o → h'.get? b = some o) → Res (.ok (.ret (.int acc tA))) { s₁.setGen gn .finished with heap := h' } := fun {s s₁ acc tA c h'} hS hp hk => by
    obtain ⟨e, acc', t', c', e', q⟩ := hp
    rw [e, hS] at e'
    have e' : sumO acc tA c = sumO acc' t' c' := Option.some.inj e'
    obtain rfl : acc = acc' := by
      unfold sumO at e'
      injection e' with _ _ e2 _
      injection e2 with e3 _
      have := congrArg Array.toList e3
      simp at this
      exact this.1
    exact hR _ _ _ (hFk _ _ _ (hFg _ _ _ q (allBare_setGen (hFb _ _ q) rfl)) hk)
  intro n
  induction n with
  | zero =>
    intro s acc tA c st hst hS hg hl ⟨gs, hgs, hgo⟩
    refine codeAny_builtin PySem.F.entry_sum_loop ?_
    rw [Around.under_plainId PySem.F.plain_sum_loop _]
    show wpAny _ A.in1 (seqItems? (.ref S) >>= _) _ _ s
    refine wpAny_bind (wpAny_seqItems hS rfl ?_)
    show wpAny _ A.in1 (tryCatch (pyNext (.ref a)) _ >>= _) _ _ s
    refine wpAny_bind (wpAny_tryCatch (next_genG (A := A.in1) (F := fun _ s₀ s₁ => s₁.heap.get? S = s₀.heap.get? S ∧ ∃ acc t c, s₁.heap.get? S = some (sumO acc t c) ∧ F acc s₁) (Er := fun _ _ => False) hh hl hd hg hgs hgo (fun v s₁ gs' hb hv => ?_) (fun s₁ hp h' hk => ?_) fun e s₁ he => he.elim))
    · obtain ⟨i, t, acc', t', c', rfl, q1, q2, q3, q4, q5, q6⟩ := id hv
      exact (q6 _ (woke_upd (t' := t') (tk := s₁.toks) q5 q1)).elim
    · exact wpAny_pure (fin hS hp hk)
  | succ n ih =>
    intro s acc tA c st hst hS hg hl ⟨gs, hgs, hgo⟩
    have hgl : gn < s.gens.size := (Array.getElem?_eq_some_iff.mp hgs).1
    refine codeAny_builtin PySem.F.entry_sum_loop ?_
    rw [Around.under_plainId PySem.F.plain_sum_loop _]
    show wpAny _ A.in1 (seqItems? (.ref S) >>= _) _ _ s
    refine wpAny_bind (wpAny_seqItems hS rfl ?_)
    show wpAny _ A.in1 (tryCatch (pyNext (.ref a)) _ >>= _) _ _ s
    refine wpAny_bind (wpAny_gsz (n := gn + 1) hgl (wpAny_tryCatch (next_genG (A := A.in1) (F := fun _ s₀ s₁ => s₁.heap.get? S = s₀.heap.get? S ∧ ∃ acc t c, s₁.heap.get? S = some (sumO acc t c) ∧ F acc s₁) (Er := fun _ _ => False) hh hl hd hg hgs hgo (fun v s₁ gs' hb hv => ?_) (fun s₁ hp h' hk => ?_) fun e s₁ he => he.elim)))
    · intro hsz
      obtain ⟨i, t, acc', t', c', rfl, q1, q2, q3, q4, q5, q6⟩ := hv
      have q4 : s₁.heap.get? S = s.heap.get? S := q4
      have hsz1 : gn < s₁.gens.size := by
        have q : (s₁.setGen gn gs').gens.size = s₁.gens.size := setGen_size _ _ _
        have hsz' : gn + 1 ≤ (s₁.setGen gn gs').gens.size := hsz
        omega
      have hS1 : s₁.heap.get? S = some (sumO acc tA c) := q4.trans hS
      have eacc : acc = acc' := by
        rw [hS1] at q5
        have e' : sumO acc tA c = sumO acc' t' c' := Option.some.inj q5
        unfold sumO at e'
        injection e' with _ _ e2 _
        injection e2 with e3 _
        have := congrArg Array.toList e3
        simp at this
        exact this.1
      subst eacc
      have gb : AllBare (s₁.setGen gn gs').gens := allBare_setGen q1 hb
      -- the loop goes on, whatever the stage, from a heap that differs at S alone
      have on : ∀ {s3 : Shared} {t3 : Tok} {c3 : Nat} {st3 : Int}, (st3 = 0 ∨ st3 = 2) → s3.gens = (s₁.setGen gn gs').gens → s3.os = s₁.os → (∀ b o, b ≠ S → s₁.heap.get? b = some o → s3.heap.get? b = some o) → s3.heap.get? S = some (sumO (acc + i) t3 c3) →
          codeAny (model P w) A (.builtin "sum.loop" ⟨[.ref a, .ref S, rawInt st3, rawInt 0], []⟩) Res s3 := fun {s3 t3 c3 st3} hst3 hg3 ho3 hk3 hS3 => by
        refine ih s3 (acc + i) t3 c3 st3 hst3 hS3 ?_ ?_ ⟨gs', ?_, ?_⟩
        · obtain ⟨o, nm, qn, ho, r⟩ := q3
          exact ⟨o, nm, qn, hk3 a o (Ne.symm hSa) ho, r⟩
        · obtain ⟨mc, hns, hnn⟩ := q2
          exact ⟨mc, hns.at' fun o e => hk3 _ o (Ne.symm hSc) e, hnn⟩
        · rw [hg3]; exact setGen_at hsz1
        · refine q6 _ ⟨ho3, ?_, hk3, t3, c3, hS3⟩
          show AllBare (s3.setGen gn .running).gens
          exact allBare_setGen (hg3 ▸ gb) rfl
      have fine0 : ∀ {t3 : Tok}, (s₁.heap.update S (Obj.mapSeq fun _ => #[Value.int (acc + i) t3])).get? S = some (sumO (acc + i) t3 _) := fun {t3} => Heap.get?_update_self _ hS1 rfl
      have keep0 : ∀ {t3 : Tok} (b : Addr) (o : Obj), b ≠ S → s₁.heap.get? b = some o → (s₁.heap.update S (Obj.mapSeq fun _ => #[Value.int (acc + i) t3])).get? b = some o := fun b o hb e => (Heap.get?_update_other _ _ (Ne.symm hb)).trans e
      rcases hst with rfl | rfl
      · show wpAny _ A.in1 (if (_ : Bool) = true then (mkInt (acc + i) >>= _) else _) _ _ _
        split
        · refine wpAny_bind (wpAny_mkInt ?_)
          show wpAny _ A.in1 (updateSeq S (fun _ => #[.int (acc + i) s₁.toks]) >>= _) _ _ _
          refine wpAny_bind ?_
          exact wpAny_updateSeq hS1 rfl (wpAny_pure ⟨plainId_quiet PySem.F.plain_sum_loop _, on (.inl rfl) rfl rfl keep0 fine0⟩)
        · refine wpAny_bind (wpAny_rule ?_)
          refine wpAny_bind (wpAny_attempt (wpAny_holding (wpAny_add_int ?_)))
          show wpAny _ A.in1 (updateSeq S (fun _ => #[.int (acc + i) s₁.toks]) >>= _) _ _ _
          refine wpAny_bind (wpAny_updateSeq hS1 rfl ?_)
          have hS₂ := Heap.get?_update_self (Obj.mapSeq fun _ => #[Value.int (acc + i) s₁.toks]) hS1 rfl
          refine wpAny_bind (wpAny_letGo ?_)
          refine wpAny_bind (wpAny_updateSeq hS₂ rfl (wpAny_pure ⟨plainId_quiet PySem.F.plain_sum_loop _, on (.inr rfl) rfl rfl (fun b o hb e => (Heap.get?_update_other _ _ (Ne.symm hb)).trans (keep0 b o hb e)) (Heap.get?_update_self _ hS₂ rfl)⟩))
      · show wpAny _ A.in1 ((holding [Value.int i t] (binaryOp .Add (.int acc tA) (.int i t))).attempt >>= _) _ _ _
        refine wpAny_bind (wpAny_attempt (wpAny_holding (wpAny_add_int ?_)))
        show wpAny _ A.in1 (updateSeq S (fun _ => #[.int (acc + i) s₁.toks]) >>= _) _ _ _
        refine wpAny_bind (wpAny_updateSeq hS1 rfl ?_)
        have hS₂ := Heap.get?_update_self (Obj.mapSeq fun _ => #[Value.int (acc + i) s₁.toks]) hS1 rfl
        refine wpAny_bind (wpAny_letGo ?_)
        refine wpAny_bind (wpAny_updateSeq hS₂ rfl (wpAny_pure ⟨plainId_quiet PySem.F.plain_sum_loop _, on (.inr rfl) rfl rfl (fun b o hb e => (Heap.get?_update_other _ _ (Ne.symm hb)).trans (keep0 b o hb e)) (Heap.get?_update_self _ hS₂ rfl)⟩))
    · intro _
      exact wpAny_pure (fin hS hp hk)
end
end Cs
set_option maxHeartbeats 4000000
namespace Cs
open PySem PySem.Spec PyProof.Rows L2 GenW
/-- a generator that is ready to be summed -/
def ReadyXS (X : Cx) (pins : List (Addr × Obj)) (σ : L2.St) (Q : VK) (a : Addr) (s5 : Shared) : Prop :=
  ∃ (gn : Nat) (F : Int → Shared → Prop) (n : Nat), s5.heap.IsGen a gn ∧ s5.heap.NoLimit ∧ a < s5.heap.objs.size ∧
    (∀ (S : Addr) (s6 : Shared), s5.heap.objs.size ≤ S → (∀ b o, s5.heap.get? b = some o → s6.heap.get? b = some o) → (∃ t c, s6.heap.get? S = some (sumO 0 t c)) → s6.os = s5.os → s6.gens = s5.gens → ∃ gs, s6.gens[gn]? = some gs ∧ gs.Goes (model X.prog X.w) X.A.in1.in1 (RXs S F) (YXs S a gn) n (.send .none) (s6.setGen gn .running)) ∧
    (∀ b s G, F b s → AllBare G → F b { s with gens := G }) ∧ (∀ b (s : Shared) h', F b s → (∀ b o, s.heap.get? b = some o → h'.get? b = some o) → F b { s with heap := h' }) ∧ (∀ b s, F b s → AllBare s.gens) ∧ ∀ b t s', F b s' → EP X pins σ Q (.int b t) s'
def tGxS (P : Addr) (wi : TI) (g : TG) (tt : TT) (te : TE) (own : List Str) (fr : List (Str × Nat)) : TE := fun σ H Q => wi σ H fun J H1 => GxR.TabG H1 P ∧ ∀ H2, GxR.Tabbed P H1 H2 →
  ∃ W : Nat → Nat → Int → Hp → Prop, (∃ m, W 0 m 0 H2) ∧ GxTurnS J g tt te (gxσ own fr σ) (List.range own.length) (fun b H => Q (.int b) H) W
section
variable {X : Cx} {pins : List (Addr × Obj)} {σ : L2.St} {H : Hp} {s : Shared} {c P : Addr} {elt tg iter : Expr} {ifs : List Expr} {p pos gpos : Pos} {scope : Scope} {wi : TI} {g : TG} {tt : TT} {te : TE} {k : Nat} {own : List Str} {fr : List (Str × Nat)} {Q : VK} {Q' : Value → Shared → Prop}
theorem gx_overS (hr : Room k X.A) (TB : GxR.TabB X.base X.mg c P) (hcode : X.env.code = .ref c) (S : GxS X.N X.env.scope scope own fr) (hc : X.calm = true) (hi : PI X tg iter wi) (hs : ∀ v, genFold iter X.env v = pure v)
    (hg : ∀ s H C code fp pn, PG (gxc X (gxN own fr) s H (gxE X scope C code) fp pn) tg g) (ht : ∀ s H C code fp pn, PTs (gxc X (gxN own fr) s H (gxE X scope C code) fp pn) ifs tt) (he : ∀ s H C code fp pn, PE (gxc X (gxN own fr) s H (gxE X scope C code) fp pn) elt te)
    (I : Inv X pins σ H s) (h : tGxS P wi g tt te own fr σ H Q) (hQ : ∀ a s5, ReadyXS X pins σ Q a s5 → Q' (.ref a) s5) :
    wpAny (model X.prog X.w) X.A (eval (.GeneratorExp elt [⟨tg, iter, ifs, 0⟩] scope gpos) X.env) Q' X.xe s := by
  have hfree : ∀ y ∈ scope.names, y.2 = .free → ∃ c, X.env.cells.lookup y.1 = some c := fun y hy e => by
    rcases S.free y hy e with k | k
    · exact I.ok.has _ (.inl k)
    · exact I.ok.has _ (.inr k)
  refine wpAny_GeneratorExp_make S.co (closure_ok hfree) S.cell S.dot S.kind hr.depth ?_ hs
  refine thn (hi.run pins s σ H _ I h) fun xv s1 hx => thn hx fun itv s2 h2 => ?_
  obtain ⟨it, fp, tn, J, HA, e, IA, T, st, f2, ⟨ps, hP, okP⟩, q⟩ := h2
  subst e
  refine ⟨IA.nolimit, ?_⟩
  have atP : s2.heap.get? P = some { cls := .none, data := .fields ps } := IA.hok P _ hP
  have hd : PySem.W.CodeHd s2.heap c P := TB.code.keeps fun b u q => IA.bk b u q
  have go : ∀ (code : Value) (hC : Heap) (tk : Nat) (more : Array Value), Heap.ExtBut P s2.heap hC → s2.heap.objs.size ≤ hC.objs.size → hC.get? P = some { cls := .none, data := .fields (ps ++ more) } → TriplesOk (ps ++ more).toList →
      wpAny (model X.prog X.w) X.A (builtinsFor X.env.globals X.env.builtins) (fun bi s₄ => ∀ h', h'.Ns s₄.heap.objs.size (fun y => if y = ".0" then some (.ref it) else none) → Heap.SameBut s₄.heap.objs.size (s₄.heap.push { cls := .type "frame", data := .dict #[] }) h' →
          Q' (.ref h'.objs.size) { s₄ with
            gens := s₄.gens.push (.fresh (.compStart (.GeneratorExp elt [⟨tg, iter, ifs, 0⟩] scope gpos) 0 (.ref it) .none (genEnv scope (cloFrom X.env.cells scope.names []) s₄.heap.objs.size code bi X.env))),
            toks := s₄.toks + 1 + 1 + 1,
            heap := h'.push { cls := .type "generator", data := .fields #[.int s₄.gens.size 0, .str "<genexpr>" (s₄.toks + 1), .str (X.env.qual ++ "<genexpr>") (s₄.toks + 1 + 1)] } }) X.xe { s2 with heap := hC, toks := tk } := by
    intro code hC tk more ext big tabC okC
    obtain ⟨bm, ob, b1, b2, b3, b4, b5, b6, b7, b8⟩ := TB.bm
    have old : ∀ b u, b ≠ P → s2.heap.get? b = some u → hC.get? b = some u := fun b u n q => ext b u n q
    refine wpAny_builtinsFor (m := X.mg) (by rw [IA.ok.glob]; exact (IA.mod.glob.keeps IA.bk).extBut ext TB.gP) b1 b2 (old _ _ b4 (IA.bk _ _ b5)) b6 b7 b8 ?_
    intro h' hn' hs'
    have hn' : h'.Ns hC.objs.size (fun y => if y = ".0" then some (.ref it) else none) := hn'
    have hs' : Heap.SameBut hC.objs.size (hC.push { cls := .type "frame", data := .dict #[] }) h' := hs'
    have I4 : Inv X pins σ (upd HA P (.tbl (ps ++ more))) { s2 with heap := hC, toks := tk } := GxR.inv_tab (more := more) (h' := hC) (g' := s2.gens) (d' := s2.drawn) (t' := tk) IA hP old tabC IA.bare
    have nP : ∀ b ∈ fp, b ≠ P := fun b hb z => by
      have := (f2 b hb).1
      rw [z, hP] at this
      cases this
    have lt2 : ∀ b ∈ fp, b < hC.objs.size := fun b hb => by
      obtain ⟨o, e, _⟩ := T.obj _ _ st b hb
      exact Nat.lt_of_lt_of_le (Heap.lt_size e) big
    have f4 : ∀ b ∈ fp, FpOk X pins (upd HA P (.tbl (ps ++ more))) b ∧ b < ({ s2 with heap := hC, toks := tk } : Shared).heap.objs.size := fun b hb => ⟨⟨by rw [upd_ne (nP b hb)]; exact (f2 b hb).1, (f2 b hb).2⟩, lt2 b hb⟩
    have st4 : tn 0 hC := T.keep _ _ _ st fun b hb o e => old b o (nP b hb) e
    have hsz : h'.objs.size = hC.objs.size + 1 := by rw [hs'.1, Heap.size_push]
    show Q' (.ref h'.objs.size) { s2 with
            gens := s2.gens.push (.fresh (.compStart (.GeneratorExp elt [⟨tg, iter, ifs, 0⟩] scope gpos) 0 (.ref it) .none (genEnv scope (cloFrom X.env.cells scope.names []) hC.objs.size code builtinsNs X.env))),
            toks := tk + 1 + 1 + 1,
            heap := h'.push ({ cls := .type "generator", data := .fields #[.int s2.gens.size 0, .str "<genexpr>" (tk + 1), .str (X.env.qual ++ "<genexpr>") (tk + 1 + 1)] } : Obj) }
    generalize hgo : ({ cls := .type "generator", data := .fields #[.int s2.gens.size 0, .str "<genexpr>" (tk + 1), .str (X.env.qual ++ "<genexpr>") (tk + 1 + 1)] } : Obj) = gobj
    have keep5 : ∀ b o, hC.get? b = some o → (h'.push gobj).get? b = some o := fun b o e => Heap.get?_push_of_some _ (hs'.extBut b o (Nat.ne_of_lt (Heap.lt_size e)) (Heap.get?_push_of_some _ e))
    generalize hce : genEnv scope (cloFrom X.env.cells scope.names []) hC.objs.size code builtinsNs X.env = ce
    generalize hs5 : ({ s2 with gens := s2.gens.push (.fresh (.compStart (.GeneratorExp elt [⟨tg, iter, ifs, 0⟩] scope gpos) 0 (.ref it) .none ce)), toks := tk + 1 + 1 + 1, heap := h'.push gobj } : Shared) = s5
    have h5 : s5.heap = h'.push gobj := by rw [← hs5]
    have g5 : s5.gens = s2.gens.push (.fresh (.compStart (.GeneratorExp elt [⟨tg, iter, ifs, 0⟩] scope gpos) 0 (.ref it) .none ce)) := by rw [← hs5]
    have o5 : s5.os = s2.os := by rw [← hs5]
    have gat : s5.heap.get? h'.objs.size = some gobj := by rw [h5]; exact Heap.get?_push_size _ (by rw [← hgo]; rfl)
    have isg : ∀ h : Heap, h.get? h'.objs.size = some gobj → h.IsGen h'.objs.size s2.gens.size := fun h e => ⟨gobj, _, _, e, by rw [← hgo], by rw [← hgo], by rw [← hgo]⟩
    have b5' : AllBare s5.gens := by rw [g5]; exact IA.bare.push rfl
    have hsc : ce.scope = scope := by rw [← hce]; rfl
    have I5 : Inv (gxc X (gxN own fr) { s2 with heap := hC, toks := tk } (upd HA P (.tbl (ps ++ more))) ce fp [(h'.objs.size, gobj)]) [] (gxσ own fr σ) (upd HA P (.tbl (ps ++ more))) (s5.setGen s2.gens.size .running) := by
      rw [← hce]
      refine gx_start S hc I4 f4 o5 (allBare_setGen b5' rfl) (fun b o e => by show s5.heap.get? b = some o; rw [h5]; exact keep5 b o e) ⟨_, by show s5.heap.Ns _ _; rw [h5]; exact hn'.push _⟩ fun p hp => ?_
      rw [List.mem_singleton.mp hp]
      exact ⟨gat, by show hC.objs.size < h'.objs.size; omega, fun v z => by rw [← hgo] at z; cases z⟩
    have hgs : s5.gens[s2.gens.size]? = some (.fresh (.compStart (.GeneratorExp elt [⟨tg, iter, ifs, 0⟩] scope gpos) 0 (.ref it) .none ce)) := by rw [g5]; exact Array.getElem?_push_size ..
    obtain ⟨W, ⟨m, w0⟩, turn⟩ := q (upd HA P (.tbl (ps ++ more))) ⟨⟨ps ++ more, upd_same, okC⟩, fun b n => upd_ne n⟩
    refine hQ _ _ ⟨s2.gens.size, GxFs (gxc X (gxN own fr) { s2 with heap := hC, toks := tk } (upd HA P (.tbl (ps ++ more))) ce fp [(h'.objs.size, gobj)]) (fun b H => Q (.int b) H), m + 1, isg _ gat, I5.nolimit, Heap.lt_size gat, ?_, ?_, ?_, ?_, ?_⟩
    · intro Sx s6 hSx k6 hS6 os6 g6
      have lC : hC.objs.size < Sx := Nat.lt_of_lt_of_le (show hC.objs.size < s5.heap.objs.size by rw [h5, Heap.size_push]; omega) hSx
      have lG : h'.objs.size < Sx := Nat.lt_of_lt_of_le (Heap.lt_size gat) hSx
      obtain ⟨tS, cS, eS⟩ := hS6
      have I6 : Inv (gxc X (gxN own fr) { s2 with heap := hC, toks := tk } (upd HA P (.tbl (ps ++ more))) ce fp [(h'.objs.size, gobj)]) [] (gxσ own fr σ) (upd HA P (.tbl (ps ++ more))) (s6.setGen s2.gens.size .running) :=
        I5.call' (ch := []) os6 (Un.kept k6) (I5.hok.kept k6) (allBare_setGen (s := s6) (by rw [g6]; exact b5') rfl) fun b z => by cases z
      have I6' : GIs (gxc X (gxN own fr) { s2 with heap := hC, toks := tk } (upd HA P (.tbl (ps ++ more))) ce fp [(h'.objs.size, gobj)]) Sx 0 (gxσ own fr σ) (upd HA P (.tbl (ps ++ more))) (s6.setGen s2.gens.size .running) := ⟨tS, cS, I6.pins_of fun p hp => by
        rw [List.mem_singleton.mp hp]
        refine ⟨eS, I5.hok.fresh hSx, ?_, I5.nofs hSx, fun v q => by cases q⟩
        show Sx ≠ ce.locals
        rw [← hce]
        exact Nat.ne_of_gt lC⟩
      have hgs6 : s6.gens[s2.gens.size]? = some (.fresh (.compStart (.GeneratorExp elt [⟨tg, iter, ifs, 0⟩] scope gpos) 0 (.ref it) .none ce)) := by rw [g6]; exact hgs
      refine ⟨_, hgs6, rfl, ?_⟩
      refine seg_gxSStart (Xg := gxc X (gxN own fr) { s2 with heap := hC, toks := tk } (upd HA P (.tbl (ps ++ more))) ce fp [(h'.objs.size, gobj)]) rfl hc (by show ce.scope.isCoroutine = false; rw [hsc]; exact S.co) rfl rfl T (hce ▸ hg _ _ _ _ _ _) (hce ▸ ht _ _ _ _ _ _) (hce ▸ he _ _ _ _ _ _)
        (fun b hb p hp => ?_) (fun pins' σ' H' s' I' => isg _ (I'.pin (h'.objs.size, gobj) (List.mem_append_left _ (List.mem_singleton.mpr rfl))).1) (fun p hp => ?_) ⟨Nat.le_of_lt lC, ?_, fun y c e z => ?_⟩ (fun z => ?_) turn (Nat.lt_succ_self m) I6' rfl (T.keep _ _ _ st4 fun b hb o e => by show s6.heap.get? b = some o; exact k6 _ _ (by rw [h5]; exact keep5 b o e)) (fun b hb => (f4 b hb).1.1) w0
      · rw [List.mem_singleton.mp hp]
        have hlt : hC.objs.size < h'.objs.size := by omega
        exact Nat.ne_of_gt (Nat.lt_trans (lt2 b hb) hlt)
      · rw [List.mem_singleton.mp hp]
        exact Nat.ne_of_lt lG
      · show Sx ≠ ce.locals
        rw [← hce]
        exact Nat.ne_of_gt lC
      · obtain ⟨v, q⟩ := I5.cell y c e
        exact absurd (Nat.lt_of_lt_of_le q.lt (by rw [z]; exact hSx)) (Nat.lt_irrefl _)
      · exact absurd (Nat.lt_trans lC (lt2 Sx z)) (Nat.lt_irrefl _)
    · rintro b s' G ⟨σ', H', I', qq⟩ hG
      exact ⟨σ', H', Inv.gens' I' hG, qq⟩
    · rintro b s' h2 ⟨σ', H', I', qq⟩ hk
      exact ⟨σ', H', I'.kept (t' := s'.toks) hk, qq⟩
    · rintro b s' ⟨σ', H', I', qq⟩
      exact I'.bare
    · rintro b t s' ⟨σ', H', I', qq⟩
      exact ⟨.int b, H', I4.call' (ch := fp) I'.os I'.base I'.hok I'.bare fun b hb => ⟨(f4 b hb).1.2.2.2.1, (f4 b hb).1.2.1, (f4 b hb).1.2.2.2.2.1, (f4 b hb).1.2.2.2.2.2⟩, ⟨t, rfl⟩, qq⟩
  cases ec : codeAmong gpos ps.toList with
  | some cv =>
    refine wpAny_genexprCode_hit hcode (hd.code atP okP) ec ?_
    exact go cv s2.heap s2.toks #[] (Heap.ExtBut.refl _ _) (Nat.le_refl _) (by rw [Array.append_empty]; exact atP) (by rw [Array.append_empty]; exact okP)
  | none =>
    refine wpAny_genexprCodeX hcode (hd.code atP okP) (hd.tab atP) ec fun c' hC tk ext ge lt co _ tab _ => ?_
    obtain ⟨_, _, _, _, _, _, _, _, _, _, _, _, _, _, _, _, _, _, _, okC, _⟩ := co
    exact go _ hC tk _ ext (Nat.le_trans ge (Nat.le_of_lt lt)) tab.2 okC
/-- sum(elt for tg in iter if ..) -/
theorem pe_gxSum (hr : Room k X.A) (hgl : Gl X "sum") (hm : X.mg "sum" = none) (TB : GxR.TabB X.base X.mg c P) (hcode : X.env.code = .ref c) (S : GxS X.N X.env.scope scope own fr) (hc : X.calm = true) (hi : PI X tg iter wi) (hs : ∀ v, genFold iter X.env v = pure v)
    (hg : ∀ s H C code fp pn, PG (gxc X (gxN own fr) s H (gxE X scope C code) fp pn) tg g) (ht : ∀ s H C code fp pn, PTs (gxc X (gxN own fr) s H (gxE X scope C code) fp pn) ifs tt) (he : ∀ s H C code fp pn, PE (gxc X (gxN own fr) s H (gxE X scope C code) fp pn) elt te)
    (hst : starEach [.GeneratorExp elt [⟨tg, iter, ifs, 0⟩] scope gpos] X.env = (false, eval (.GeneratorExp elt [⟨tg, iter, ifs, 0⟩] scope gpos) X.env) :: starEach [] X.env := by rfl) :
    PE X (.Call (.Name "sum" p) [.GeneratorExp elt [⟨tg, iter, ifs, 0⟩] scope gpos] [] pos) (tGxS P wi g tt te own fr) := by
  refine ⟨fun pins s σ H Q I h => ?_⟩
  refine wpAny_Call_Name_kw (ld_blt I hgl hm (show bootBuiltins "sum" = some (.builtin "sum") by decide +kernel) ?_)
  refine PyProof.Rows.callWith_builtin1 ?_ hst (by rfl)
  rw [hst]
  show wpAny _ _ (spliced ((false, eval (.GeneratorExp elt [⟨tg, iter, ifs, 0⟩] scope gpos) X.env) :: backTo pos (starEach [] X.env))) _ _ s
  refine Calls.spliced_cons (gx_overS hr TB hcode S hc hi hs hg ht he I h fun a s5 ⟨gn, F, n, r1, r2, ra, r3, r4, r5, r6, r7⟩ => ?_)
  refine Calls.spliced_nil ?_
  refine call_function_tree PySem.F.kind_sum PySem.F.plain_sum PySem.F.entry_sum (PySem.F.args_sum1 _) ?_
  unfold Builtin.«sum»
  simp only [List.length_cons, List.length_nil]
  rw [if_neg (by decide)]
  refine wpAny_bind (wpAny_of_eq (show Builtin.Builtins.bindParams "sum" ["start"] 0 { } = pure [none] from rfl) ?_)
  refine wpAny_bind (wpAny_pyIter_gen r1 ?_)
  refine wpAny_bind (wpAny_mkInt ?_)
  refine wpAny_bind (wpAny_pure ?_)
  simp only [List.forIn_cons, List.forIn_nil]
  refine wpAny_bind (wpAny_bind (wpAny_bind (wpAny_isInstance (T := "int") (b := false) (typeIs_int _ _ _) PySem.sub_int_str ?_)))
  simp only [Bool.false_eq_true, if_false]
  refine wpAny_pure (wpAny_bind (wpAny_bind (wpAny_isInstance (T := "int") (b := false) (typeIs_int _ _ _) PySem.sub_int_bytes ?_)))
  simp only [Bool.false_eq_true, if_false]
  refine wpAny_pure (wpAny_bind (wpAny_bind (wpAny_isInstance (T := "int") (b := false) (typeIs_int _ _ _) PySem.sub_int_bytearray ?_)))
  simp only [Bool.false_eq_true, if_false]
  refine wpAny_pure (wpAny_pure ?_)
  refine wpAny_bind (wpAny_newObj_type ?_)
  have hcl : cStatics < s5.heap.objs.size := let ⟨_, hn, _⟩ := r2; hn.lt
  have kp : ∀ (o : Obj) b u, s5.heap.get? b = some u → (s5.heap.push o).get? b = some u := fun o b u e => Heap.get?_push_of_some _ e
  refine wpAny_pure ⟨plainId_quiet PySem.F.plain_sum_loop _, loop_sum hr.hd hr.depth (Nat.ne_of_gt ra) (Nat.ne_of_gt hcl) r4 r5 r6 r7 n _ 0 _ 0 0 (Or.inl rfl) (Heap.get?_push_size _ rfl) ?_ (r2.push _) (r3 _ _ (Nat.le_refl _) (kp _) ⟨_, _, Heap.get?_push_size _ rfl⟩ rfl rfl)⟩
  obtain ⟨o, nm, qn, ho, r⟩ := r1
  exact ⟨o, nm, qn, kp _ _ _ ho, r⟩
end
end Cs
set_option maxHeartbeats 4000000
namespace Cs
open PySem PySem.Spec PyProof.Rows L2
/-! ### sum of a generator expression, by kinds -/
theorem gx_itS {J : It} {n : Nat} {G : Hp → Prop} {Y : Nat → Hp → V → Hp → Prop} (w : Walk J n G Y) {g : TG} {tt : TT} {te : TE} {σ0 : L2.St} {own : List Nat} {Qe : Int → Hp → Prop} (Pv : Nat → Int → Hp → Prop) (hG : ∀ i acc H, i ≤ n → Pv i acc H → G H)
    (hs : ∀ i acc x H H', i < n → Pv i acc H → Y i H x H' → g x σ0 H' fun σ2 H2 => wipe σ2 own = σ0 ∧ tt σ2 H2 fun b H3 => if b = true then te σ2 H3 fun y H4 => ∃ c, y = .int c ∧ Pv (i + 1) (acc + c) H4 else Pv (i + 1) acc H3) (hd : ∀ acc H, Pv n acc H → Qe acc H) :
    GxTurnS J g tt te σ0 own Qe (fun i m acc H => m = n - i ∧ i ≤ n ∧ Pv i acc H) := by
  rintro i m acc H ⟨rfl, hi, p⟩
  have q := hG i acc H hi p
  by_cases l : i < n
  · exact .inr ⟨w.goes i H l q, Pv (i + 1), fun acc' H' p' => ⟨n - (i + 1), by omega, rfl, l, p'⟩, fun x H' y => hs i acc x H H' l p (w.yields i H x H' l q y)⟩
  · obtain rfl : i = n := by omega
    exact .inl ⟨w.stops H q, hd acc H p⟩
section
variable {α β : Type} {W : Wd} {K : PySem.W.Frag} {te : TE} {t : Ty α} {tt : TT} {g : TG} {as : α → List (Nat × SF)} {wi : TI} {P : Addr} {own : List Str} {fr : List (Str × Nat)} {capG : List (Option SF)}
def kSum (xs : List α) (p : α → Bool) (f : α → Int) : Int := ((xs.filter p).map f).sum
theorem kSum_snoc (xs : List α) (x : α) (p : α → Bool) (f : α → Int) : kSum (xs ++ [x]) p f = kSum xs p f + if p x = true then f x else 0 := by
  unfold kSum
  rw [filterMap_snoc, List.sum_append]
  congr 1
  split <;> simp
/-- the world in the turns -/
abbrev sumW (W : Wd) (f0 : FF) (H : Hp) : Wd := ⟨W.H0, W.M, W.S, W.L, f0 :: ffS (hid W.S H) :: W.F, W.G⟩
theorem gxS_core {xs : List α} {p : α → Bool} {f : α → Int} {J : It} {Good : Hp → Prop} {Y : Nat → Hp → V → Hp → Prop} {f0 : FF} {σ : L2.St} {H H2 : Hp} (wY : Walk J xs.length Good Y) (hGood : ∀ H', Ok (sumW W f0 H) σ H' → Good H')
    (hY : ∀ k H0' v H', k < xs.length → Ok (sumW W f0 H) σ H0' → Y k H0' v H' → Same H0' H' ∧ ∃ x, xs[k]? = some x ∧ t.r (hid W.S H') v x)
    (g2 : Go1 W σ H H2) (fp2 : f0.p (hid W.S H2)) (tg : Tgt g t as) (hi : ∀ x, ∀ q ∈ as x, q.1 ∈ List.range own.length) (hc : CapOk W.G fr capG)
    (ht : ∀ F x, (∀ q ∈ W.F, q ∈ F) → x ∈ xs → Et ((gxW W F own capG).puts (as x)) tt (p x)) (he : ∀ F x, (∀ q ∈ W.F, q ∈ F) → x ∈ xs → p x = true → Ev ((gxW W F own capG).puts (as x)) te tInt (f x))
    (hp : ∀ (W : Wd) x, (W.puts (as x)).H0 = W.H0 ∧ (W.puts (as x)).M = W.M ∧ (W.puts (as x)).S = W.S ∧ (W.puts (as x)).L = W.L ∧ (W.puts (as x)).F = W.F) {Q : VK} (q : ∀ v H', Go1 W σ H H' → tInt.r (hid W.S H') v (kSum xs p f) → Q v H') :
    ∃ W' : Nat → Nat → Int → Hp → Prop, (∃ m, W' 0 m 0 H2) ∧ GxTurnS J g tt te (gxσ own fr σ) (List.range own.length) (fun b H => Q (.int b) H) W' := by
  have o0 : Ok (sumW W f0 H) σ H2 := Ok.know (Ok.know g2.ok (f := ffS (hid W.S H)) g2.up) (f := f0) fp2
  have back : ∀ H', Ok (sumW W f0 H) σ H' → Go1 W σ H H' := fun H' o' => ⟨⟨o'.nod, o'.own, o'.at_, o'.ms, o'.al, o'.bt, o'.len, fun q m => o'.facts q (List.mem_cons_of_mem _ (List.mem_cons_of_mem _ m)), o'.slots⟩, o'.facts (ffS (hid W.S H)) (List.mem_cons_of_mem _ (List.mem_cons_self ..))⟩
  have st0 : (0 : Int) = kSum (xs.take 0) p f ∧ Ok (sumW W f0 H) σ H2 := ⟨rfl, o0⟩
  refine ⟨_, ⟨xs.length, by rw [Nat.sub_zero], Nat.zero_le _, st0⟩, gx_itS wY (fun k acc H' => acc = kSum (xs.take k) p f ∧ Ok (sumW W f0 H) σ H') (fun k acc H' _ o' => hGood H' o'.2) ?_ ?_⟩
  · rintro k acc v H0' H' hk ⟨rfl, o'⟩ y
    obtain ⟨e, x, hx, rx⟩ := hY k H0' v H' hk o' y
    have o' := o'.same e
    have xm := List.mem_of_getElem? hx
    have sub : ∀ q ∈ W.F, q ∈ f0 :: ffS (hid W.S H) :: W.F := fun q m => List.mem_cons_of_mem _ (List.mem_cons_of_mem _ m)
    have oi : Ok (gxW W (f0 :: ffS (hid W.S H) :: W.F) own capG) (gxσ own fr σ) H' := Ok.gx (W := sumW W f0 H) o' hc
    refine tg _ _ H' v x oi rx _ fun σ' oe ew => ?_
    refine ⟨by rw [ew (List.range own.length) (hi x), wipe_gxσ], ?_⟩
    have ret : ∀ H2, Go1 ((gxW W (f0 :: ffS (hid W.S H) :: W.F) own capG).puts (as x)) σ' H' H2 → Ok (sumW W f0 H) σ H2 := fun H2 g2 => by
      obtain ⟨p1, p2, p3, p4, p5⟩ := hp (gxW W (f0 :: ffS (hid W.S H) :: W.F) own capG) x
      have o2 := g2.ok
      have up := g2.up
      rw [p3] at up
      have o3 : Ok { sumW W f0 H with G := ((gxW W (f0 :: ffS (hid W.S H) :: W.F) own capG).puts (as x)).G } σ' H2 := by
        have : ((gxW W (f0 :: ffS (hid W.S H) :: W.F) own capG).puts (as x)) = { sumW W f0 H with G := ((gxW W (f0 :: ffS (hid W.S H) :: W.F) own capG).puts (as x)).G } := by
          generalize ((gxW W (f0 :: ffS (hid W.S H) :: W.F) own capG).puts (as x)) = Z at p1 p2 p3 p4 p5 ⊢
          cases Z
          cases p1; cases p2; cases p3; cases p4; cases p5
          rfl
        rw [← this]
        exact o2
      exact Ok.swap (W := sumW W f0 H) o' o3 up
    have tk : xs.take (k + 1) = xs.take k ++ [x] := take_snoc hx
    refine ht _ x sub xm _ _ oe _ fun H2 g2 => ?_
    cases hpx : p x with
    | false =>
      refine iteF ⟨?_, ret H2 g2⟩
      rw [tk, kSum_snoc, hpx]
      simp
    | true =>
      refine iteT ?_
      refine he _ x sub xm hpx _ _ g2.ok _ fun w H3 g3 rw' => ?_
      refine ⟨f x, rw', ?_, ret H3 (g2.trans g3)⟩
      rw [tk, kSum_snoc, hpx]
      simp
  · rintro acc H' ⟨rfl, o'⟩
    exact q _ _ (back H' o') (by rw [List.take_length]; rfl)
/-- sum(e for .. in .. if ..) -/
theorem ev_gxSumIf {xs : List α} {p : α → Bool} {f : α → Int} (hP : tab P ∈ W.L) (h : Iv W wi t xs) (tg : Tgt g t as) (hi : ∀ x, ∀ q ∈ as x, q.1 ∈ List.range own.length) (hc : CapOk W.G fr capG)
    (ht : ∀ F x, (∀ q ∈ W.F, q ∈ F) → x ∈ xs → Et ((gxW W F own capG).puts (as x)) tt (p x)) (he : ∀ F x, (∀ q ∈ W.F, q ∈ F) → x ∈ xs → p x = true → Ev ((gxW W F own capG).puts (as x)) te tInt (f x))
    (hp : ∀ (W : Wd) x, (W.puts (as x)).H0 = W.H0 ∧ (W.puts (as x)).M = W.M ∧ (W.puts (as x)).S = W.S ∧ (W.puts (as x)).L = W.L ∧ (W.puts (as x)).F = W.F := by intros; exact ⟨rfl, rfl, rfl, rfl, rfl⟩) :
    Ev W (tGxS P wi g tt te own fr) tInt (kSum xs p f) := fun σ H o Q q => by
  refine h σ H o _ fun J H1 f0 g1 fp wk => ?_
  refine ⟨g1.ok.tabG hP, fun H2 z => ?_⟩
  obtain ⟨Y, wY, hY⟩ := wk.ex
  have ff : ∀ H', Ok (sumW W f0 H) σ H' → f0.p (hid W.S H') := fun H' o => o.facts f0 (List.mem_cons_self ..)
  exact gxS_core wY (fun H' o' => ⟨_, ff H' o'⟩) (fun k H0' v H' hk o' y => hY k H0' v H' _ hk (ff H0' o') o'.al y) (g1.trans (g1.ok.tabbed hP z)) (f0.mono (g1.ok.tabbed hP z).up fp) tg hi hc ht he hp q
theorem ev_gxSum {xs : List α} {f : α → Int} (hP : tab P ∈ W.L) (h : Iv W wi t xs) (tg : Tgt g t as) (hi : ∀ x, ∀ q ∈ as x, q.1 ∈ List.range own.length) (hc : CapOk W.G fr capG)
    (he : ∀ F x, (∀ q ∈ W.F, q ∈ F) → x ∈ xs → Ev ((gxW W F own capG).puts (as x)) te tInt (f x))
    (hp : ∀ (W : Wd) x, (W.puts (as x)).H0 = W.H0 ∧ (W.puts (as x)).M = W.M ∧ (W.puts (as x)).S = W.S ∧ (W.puts (as x)).L = W.L ∧ (W.puts (as x)).F = W.F := by intros; exact ⟨rfl, rfl, rfl, rfl, rfl⟩) :
    Ev W (tGxS P wi g tYes te own fr) tInt (xs.map f).sum := ev_is (ev_gxSumIf (p := fun _ => true) hP h tg hi hc (fun _ _ _ _ => et_yes) (fun F x hF hx _ => he F x hF hx) hp) (by unfold kSum; rw [filter_yes])
/-! ### the things of the world by what they say -/
end
end Cs
set_option maxHeartbeats 4000000
namespace Cs
open PySem PySem.Spec PyProof.Rows L2
/-! ### promises that tell what is raised too -/
/-- an error: its class, its attributes -/
abbrev Er := Addr × List (Str × SF)
def XdIs (F H : Hp) (d : Option Addr) : List (Str × SF) → Prop
  | [] => d = none
  | f :: fl => ∃ a fs, d = some a ∧ H a = some (.xd fs) ∧ FldAt F fs (f :: fl)
theorem FldAt.mono {F F' : Hp} {fs : List (Str × V)} {fl : List (Str × SF)} (e : Same F F') (h : FldAt F fs fl) : FldAt F' fs fl := fun n f m => by
  obtain ⟨u, h1, h2⟩ := h n f m
  exact ⟨u, h1, f.mono e h2⟩
theorem XdIs.mono {F F' H : Hp} {d : Option Addr} {fl : List (Str × SF)} (e : Same F F') (h : XdIs F H d fl) : XdIs F' H d fl := by
  cases fl with
  | nil => exact h
  | cons f fl =>
    obtain ⟨a, fs, h1, h2, h3⟩ := h
    exact ⟨a, fs, h1, h2, h3.mono e⟩
/-! ### the plain view of what may raise -/
/-! ### a method with keywords, in a try -/
end Cs
set_option maxHeartbeats 4000000
namespace Cs
open PySem PySem.Spec PyProof.Rows L2
/-! ### dicts as cells, by any keys -/
section
variable {α β γ δ : Type} {r q : V → α → Prop}
def lk (ms : List (Key × α)) (k : Key) : Option α := (ms.find? fun m => decide (m.1 = k)).map (·.2)
def putA (ms : List (Key × α)) (k : Key) (x : α) : List (Key × α) := if (ms.any fun m => decide (m.1 = k)) = true then ms.map (fun m => if m.1 = k then (m.1, x) else m) else ms ++ [(k, x)]
def Dk2 (r : V → α → Prop) : List (Key × V) → List (Key × α) → Prop
  | [], [] => True
  | p :: ps, m :: ms => p.1 = m.1 ∧ r p.2 m.2 ∧ Dk2 r ps ms
  | _, _ => False
theorem Dk2.mono (e : ∀ v x, r v x → q v x) : ∀ {ps : List (Key × V)} {ms : List (Key × α)}, Dk2 r ps ms → Dk2 q ps ms
  | [], [], _ => trivial
  | _ :: _, _ :: _, ⟨a, b, c⟩ => ⟨a, e _ _ b, Dk2.mono e c⟩
  | [], _ :: _, h => h.elim
  | _ :: _, [], h => h.elim
theorem Dk2.length : ∀ {ps : List (Key × V)} {ms : List (Key × α)}, Dk2 r ps ms → ps.length = ms.length
  | [], [], _ => rfl
  | _ :: _, _ :: _, ⟨_, _, c⟩ => by simp [Dk2.length c]
  | [], _ :: _, h => h.elim
  | _ :: _, [], h => h.elim
theorem Dk2.keys : ∀ {ps : List (Key × V)} {ms : List (Key × α)}, Dk2 r ps ms → ps.map (·.1) = ms.map (·.1)
  | [], [], _ => rfl
  | _ :: _, _ :: _, ⟨a, _, c⟩ => by rw [List.map_cons, List.map_cons, a, Dk2.keys c]
  | [], _ :: _, h => h.elim
  | _ :: _, [], h => h.elim
theorem Dk2.app : ∀ {ps ps' : List (Key × V)} {ms ms' : List (Key × α)}, Dk2 r ps ms → Dk2 r ps' ms' → Dk2 r (ps ++ ps') (ms ++ ms')
  | [], _, [], _, _, h => h
  | _ :: _, _, _ :: _, _, ⟨a, b, c⟩, h => ⟨a, b, Dk2.app c h⟩
  | [], _, _ :: _, _, h, _ => h.elim
  | _ :: _, _, [], _, h, _ => h.elim
theorem Dk2.getV : ∀ {ps : List (Key × V)} {ms : List (Key × α)} {i : Nat} {p : Key × V}, Dk2 r ps ms → ps[i]? = some p → ∃ m, ms[i]? = some m ∧ p.1 = m.1 ∧ r p.2 m.2
  | [], [], i, p, _, e => by simp at e
  | p0 :: ps, m0 :: ms, 0, p, ⟨a, b, c⟩, e => by
    obtain rfl : p0 = p := by simpa using e
    exact ⟨m0, rfl, a, b⟩
  | p0 :: ps, m0 :: ms, i + 1, p, ⟨a, b, c⟩, e => by
    rw [List.getElem?_cons_succ] at e ⊢
    exact Dk2.getV c e
  | [], _ :: _, _, _, h, _ => h.elim
  | _ :: _, [], _, _, h, _ => h.elim
theorem Dk2.any {k : Key} {ps : List (Key × V)} {ms : List (Key × α)} (h : Dk2 r ps ms) : (ps.any fun p => decide (p.1 = k)) = ms.any fun m => decide (m.1 = k) := by
  have e : ∀ {β : Type} (l : List (Key × β)), (l.any fun p => decide (p.1 = k)) = (l.map (·.1)).any fun c => decide (c = k) := fun l => by rw [List.any_map]; rfl
  rw [e, e, h.keys]
theorem Dk2.repl {k : Key} {v : V} {x : α} (hv : r v x) : ∀ {ps : List (Key × V)} {ms : List (Key × α)}, Dk2 r ps ms → Dk2 r (ps.map fun p => if p.1 = k then (p.1, v) else p) (ms.map fun m => if m.1 = k then (m.1, x) else m)
  | [], [], _ => trivial
  | p :: ps, m :: ms, ⟨a, b, c⟩ => by
    rw [List.map_cons, List.map_cons, a]
    by_cases e : m.1 = k
    · rw [if_pos e, if_pos e]; exact ⟨rfl, hv, Dk2.repl hv c⟩
    · rw [if_neg e, if_neg e]; exact ⟨a, b, Dk2.repl hv c⟩
  | [], _ :: _, h => h.elim
  | _ :: _, [], h => h.elim
theorem Dk2.put {k : Key} {v : V} {x : α} {ps : List (Key × V)} {ms : List (Key × α)} (h : Dk2 r ps ms) (hv : r v x) : Dk2 r (putK ps k v) (putA ms k x) := by
  unfold putK putA
  rw [h.any]
  split
  · exact h.repl hv
  · exact h.app ⟨rfl, hv, trivial⟩
theorem lk_cons {m : Key × α} {ms : List (Key × α)} {k : Key} : lk (m :: ms) k = if m.1 = k then some m.2 else lk ms k := by
  unfold lk
  rw [List.find?_cons]
  by_cases e : m.1 = k
  · simp [e]
  · simp [e]
theorem Dk2.val {k : Key} : ∀ {ps : List (Key × V)} {ms : List (Key × α)}, Dk2 r ps ms → match lk ms k with
    | none => valV ps k = none
    | some x => ∃ u, valV ps k = some u ∧ r u x
  | [], [], _ => rfl
  | p :: ps, m :: ms, ⟨a, b, c⟩ => by
    have ih := Dk2.val (k := k) c
    rw [lk_cons]
    by_cases e : m.1 = k
    · rw [if_pos e, valV_pos (a.trans e)]
      exact ⟨_, rfl, b⟩
    · rw [if_neg e, valV_neg (fun z => e (a.symm.trans z))]
      exact ih
  | [], _ :: _, h => h.elim
  | _ :: _, [], h => h.elim
theorem Dk2.some {k : Key} {ps : List (Key × V)} {ms : List (Key × α)} (h : Dk2 r ps ms) : (valV ps k).isSome = (lk ms k).isSome := by
  have := h.val (k := k)
  cases e : lk ms k with
  | none => rw [e] at this; rw [this]; rfl
  | some x =>
    rw [e] at this
    obtain ⟨u, h1, _⟩ := this
    rw [h1]; rfl
end
end Cs
set_option maxHeartbeats 4000000
set_option maxHeartbeats 4000000
namespace Cs
open PySem PySem.Spec PyProof.Rows L2
theorem ev_nonO {α : Type} {W : Wd} {t : Ty α} : Ev W (tC .non) (tOpt t) none := fun σ H o Q q => q _ H (Go1.refl o) rfl
end Cs
set_option maxHeartbeats 4000000
set_option maxHeartbeats 4000000
namespace Cs
open PySem PySem.Spec PyProof.Rows L2
section
variable {α β : Type} {W : Wd} {K : PySem.W.Frag} {ta te : TE} {t : Ty α} {x : α}
theorem ev_someL {xs : List α} (h : Ev W te (tLs K t) xs) : Ev W te (tOpt (tLs K t)) (some xs) := ev_to h fun H v ⟨p, vs, e, r⟩ => ⟨⟨p, vs, e, r⟩, by rw [e]; simp⟩
end
end Cs
set_option maxHeartbeats 4000000
set_option maxHeartbeats 4000000
namespace Cs
open PySem PySem.Spec PyProof.Rows L2
/-! ### lists over what has several answers; in, over data -/
section
variable {α β : Type} {W : Wd} {K : PySem.W.Frag} {t : Ty α} {u : Ty β} {wi : TI} {g : TG} {as : α → List (Nat × SF)} {tt : TT} {ta tb : TE} {ts : TS} {D : Ends}
theorem evx_lcfx {X : List α → Prop} {p : α → Bool} {f : α → β} {vs : List Nat} (h : Ivx W wi t X) (tg : Tgt g t as) (hi : ∀ x, ∀ p ∈ as x, p.1 ∈ vs) (hl : ∀ xs, X xs → xs.length < sizeLine)
    (ht : ∀ xs, X xs → ∀ D φ F x, (∀ f ∈ W.F, f ∈ F) → x ∈ xs → Et ((W.el D φ F vs).puts (as x)) tt (p x))
    (he : ∀ xs, X xs → ∀ D φ F x, (∀ f ∈ W.F, f ∈ F) → x ∈ xs → p x = true → Ev ((W.el D φ F vs).puts (as x)) tb u (f x)) (hp : ∀ (W : Wd) x, (W.puts (as x)).H0 = W.H0 ∧ (W.puts (as x)).M = W.M ∧ (W.puts (as x)).S = W.S ∧ (W.puts (as x)).L = W.L ∧ (W.puts (as x)).F = W.F := by intros; exact ⟨rfl, rfl, rfl, rfl, rfl⟩) :
    Evx W (tLc wi g tt tb vs) (tLs K u) (fun ys => ∃ xs, X xs ∧ ys = (xs.filter p).map f) := fun σ H o Q q => h σ H o _ fun xs J H1 f0 px g1 fp wk =>
  evx_lc (W := { W with F := f0 :: W.F }) (P := fun x b => b = p x) (R := fun x y => y = f x) (wi := fun _ H R => R J H) (fun σ' H' o' R' q' => q' J H' f0 (Go1.refl o') (o'.facts f0 (List.mem_cons_self ..)) wk) tg hi (hl xs px) (fun D φ F x hF hx => (ht xs px D φ F x (fun q m => hF q (List.mem_cons_of_mem _ m)) hx).toX rfl) (fun D φ F x hF hx e => (he xs px D φ F x (fun q m => hF q (List.mem_cons_of_mem _ m)) hx e.symm).x rfl) hp σ H1 (Ok.know g1.ok fp) Q fun v ys H2 r g2 rv =>
    q v ys H2 ⟨xs, px, r.det⟩ (g1.trans ⟨⟨g2.ok.nod, g2.ok.own, g2.ok.at_, g2.ok.ms, g2.ok.al, g2.ok.bt, g2.ok.len, fun q m => g2.ok.facts q (List.mem_cons_of_mem _ m), g2.ok.slots⟩, g2.up⟩) rv
theorem evx_lcmx {X : List α → Prop} {f : α → β} {vs : List Nat} (h : Ivx W wi t X) (tg : Tgt g t as) (hi : ∀ x, ∀ p ∈ as x, p.1 ∈ vs) (hl : ∀ xs, X xs → xs.length < sizeLine)
    (he : ∀ xs, X xs → ∀ D φ F x, (∀ f ∈ W.F, f ∈ F) → x ∈ xs → Ev ((W.el D φ F vs).puts (as x)) tb u (f x)) (hp : ∀ (W : Wd) x, (W.puts (as x)).H0 = W.H0 ∧ (W.puts (as x)).M = W.M ∧ (W.puts (as x)).S = W.S ∧ (W.puts (as x)).L = W.L ∧ (W.puts (as x)).F = W.F := by intros; exact ⟨rfl, rfl, rfl, rfl, rfl⟩) :
    Evx W (tLc wi g tYes tb vs) (tLs K u) (fun ys => ∃ xs, X xs ∧ ys = xs.map f) :=
  (evx_lcfx (p := fun _ => true) h tg hi hl (fun xs px D φ F x hF hx => et_yes) (fun xs px D φ F x hF hx _ => he xs px D φ F x hF hx) hp).imp fun ys ⟨xs, px, e⟩ => ⟨xs, px, by rw [e, filter_yes]⟩
/-! ### a text and a text or None, as a list -/
end
end Cs
set_option maxHeartbeats 4000000
set_option maxHeartbeats 4000000
namespace Cs
open PySem PySem.Spec PyProof.Rows L2
/-! ### the dict with the keys True and False, typed -/
section
variable {α β γ : Type} {P : Program} {w : World} {W : Wd} {K : PySem.W.Frag} {t : Ty α} {u : Ty β} {wi : TI} {ta tb tc td ty te tv : TE} {D : Ends} {ts us : TS} {R : List RS} {a : Addr} {i j : Int} {b : Bool}
theorem call_len_seqK {X : Cx} (hk : X.K = K) : CallR X (.builtin "len") (fun xs H Q => ∃ p ys, xs = [.ref p] ∧ (SqL K H p ys ∨ SqT K H p ys) ∧ Q (.int ys.length) H) := hk ▸ call_len_seq
/-! ### dict(list of pairs) -/
/-! ### a comprehension whose element changes things -/
/-! ### methods with drawn arguments, ends, sums, data that differ not -/
end
end Cs
set_option maxHeartbeats 4000000
namespace Cs
open PySem PySem.Spec PyProof.Rows L2
/-! ### draws that are known -/
def tk (ms : List Int) (m : Int) : Int := match ms.getLast? with
  | none => 0
  | some x => x % m
section
variable {α β γ : Type} {W : Wd} {K : PySem.W.Frag} {ta tb tc te : TE} {t : Ty α} {u : Ty β} {w : Ty γ} {x : α} {y : β} {z : γ} {L1 L2' : List RS} {E : XK} {ts us : TS} {D : Ends} {m i j : Int}
theorem atI_D {α : Type} {xs : List α} {n : Int} {d : α} (h0 : 0 ≤ n) (h1 : n < (xs.length : Int)) : atI xs n = some (xs.getD n.toNat d) := by
  obtain ⟨j, rfl⟩ := Int.eq_ofNat_of_zero_le h0
  have hj : j < xs.length := by omega
  rw [show ((j : Nat) : Int).toNat = j from rfl]
  rw [atI_nat (List.getElem?_eq_getElem hj), List.getD_eq_getElem?_getD, List.getElem?_eq_getElem hj]
  rfl
end
end Cs
set_option maxHeartbeats 4000000
namespace Cs
open PySem PySem.Spec PyProof.Rows L2
local macro_rules | `(tactic| walk_at "rd") => `(tactic| (first
  | (refine ⟨_, rfl, ?_⟩)
  | (refine ⟨_, _, rfl, rfl, ?_⟩)
  | (refine .inl ⟨_, rfl, ?_⟩)
  | (refine .inr ⟨_, rfl, ?_⟩)
  | (refine ⟨_, _, _, _, rfl, rfl, SqL.of upd_same, rfl, ?_⟩)
  | (refine ⟨_, _, _, _, rfl, rfl, upd_same, rfl, ?_⟩)
  | (refine ⟨_, ?xs, _, ?v, rfl, rfl, ?h, ?x, ?_⟩; (case h => first | exact SqL.of (by assumption) | exact SqT.of (by assumption) | assumption); (case x => first | rfl | exact atI_nat (j := 0) rfl | exact atI_nat (j := 1) rfl))))
local macro_rules | `(tactic| walk_at "isi") => `(tactic| (first
  | (refine ⟨_, _, _, _, _, rfl, .ty _, .base (.int _), kit_ty kit_it, ?_⟩)
  | (refine ⟨_, _, _, _, _, rfl, .ty _, .base (.int _), kit_ty kit_ib, ?_⟩)
  | (refine ⟨_, _, _, _, _, rfl, .ty _, .base (.int _), kit_ty kit_ii, ?_⟩)
  | (refine ⟨_, _, _, _, _, rfl, .ty _, .base (.bl _), kit_ty kit_bt, ?_⟩)
  | (refine ⟨_, _, _, _, _, rfl, .ty _, .base (.bl _), kit_ty kit_bb, ?_⟩)
  | (refine ⟨_, _, _, _, _, rfl, .ty _, .base (.bl _), kit_ty kit_bi, ?_⟩)))
local macro_rules | `(tactic| walk_at "ev") => `(tactic| (first
  | exact ev_var rfl
  | exact ev_int
  | exact ev_str
  | exact ev_bl
  | exact ev_non
  | (refine ev_add ?_ ?_ <;> walk_at "ev")
  | (refine ev_sub ?_ ?_ <;> walk_at "ev")
  | (refine ev_mul ?_ ?_ ?_ <;> (try walk_at "ev"))
  | (refine ev_neg ?_ <;> walk_at "ev")
  | (refine ev_num ?_ <;> walk_at "ev")
  | (refine ev_den ?_ <;> walk_at "ev")
  | (refine ev_cmp ?_ ?_ <;> walk_at "ev")
  | (refine ev_eqI ?_ ?_ <;> walk_at "ev")
  | (refine ev_eqS ?_ ?_ <;> walk_at "ev")
  | (refine ev_neI ?_ ?_ <;> walk_at "ev")
  | (refine ev_neS ?_ ?_ <;> walk_at "ev")
  | (refine ev_inS ?_ ?_ <;> walk_at "ev")
  | (refine ev_niS ?_ ?_ <;> walk_at "ev")
  | (refine ev_len ?_ <;> walk_at "ev")
  | (refine ev_list ?_ <;> walk_at "ev")
  | (refine ev_listRev ?_ <;> walk_at "ev")
  | (refine ev_int1 ?_ <;> walk_at "ev")))
local macro_rules | `(tactic| walk_at "ea") => `(tactic| (first
  | exact ea_nil
  | (refine ea_cons ?_ ?_ <;> (first | walk_at "ev" | walk_at "ea" | skip))))
local macro_rules | `(tactic| walk_at "sb") => `(tactic| (first | exact True.intro | (refine And.intro rfl ?_; walk_at "sb")))
local macro_rules | `(tactic| walk_at "subt") => `(tactic| repeat (first | exact List.nil_sublist _ | apply List.Sublist.cons₂ | apply List.Sublist.cons))
section
variable {P : Program} {w : World} {K : PySem.W.Frag} {mg : Str → Option Value} {base : Heap}
abbrev sFraction : Stmt := topS 8
theorem scFraction : FnScope ["p", "q", "divisor"] ["p", "q"] (defScope sFraction) := ⟨rfl, rfl, rfl, by decide +kernel, rfl, by decide +kernel, by decide +kernel⟩
theorem ok_fraction {f : Addr} {fd : FuncData} {k : Nat} (F : FunD K "fraction" "fraction" (defArgs sFraction) (defBody sFraction) (defScope sFraction) [.int 1] [] f fd) (m_gcd : mg "gcd" = some (.builtin "math.gcd")) : FnOk P w K mg base CX0 (k + 1) f fd ["p", "q"] spFrac := by
  refine F.ok scFraction (fun vs H Q E h => ?_) (fun cdv A outer s H vs Q E hr h => ?_)
  · obtain ⟨a, b, rfl, _⟩ := h
    rfl
  · obtain ⟨p, q, rfl, q0, hq, out⟩ := h
    refine ⟨_, (pss_cons (ps_if (pt_cmpR op_eq (pv 1) pe_int (nomark _)) pss_never pss_nil)
      (pss_cons (ps_set (i := 2) scFraction.nd rfl (Or.inl rfl) (pe_callBfun cr_gcd (by rfl) m_gcd (pa_cons (pv 0) (pa_cons (pv 1) pa_nil))))
      (pss_cons (ps_if (pt_cmpR op_lt (pv 1) pe_int (nomark _)) (pss_one (ps_set (i := 2) scFraction.nd rfl (Or.inl rfl) (pe_un un_neg (pv 2)))) pss_nil)
      (pss_one (ps_ret (pe_tup (pa_cons (pe_op op_fdivA (pv 0) (pv 2)) (pa_cons (pe_op op_fdivA (pv 1) (pv 2)) pa_nil)))))))), ?_⟩
    have hg := gcd_pos p q q0
    have hgb : ((Nat.gcd p.natAbs q.natAbs : Nat) : Int).natAbs < 2 ^ 9000 := by
      rw [Int.natAbs_natCast]
      exact Nat.lt_of_le_of_lt (Nat.gcd_le_right _ (by omega)) hq
    have en := frac_num p q q0
    have ed := frac_den p q q0
    refine ⟨_, rfl, rfl, _, rfl, ite2 (fun h0 => absurd (V.int.inj (of_decide_eq_true h0)) q0) (fun h0 => ?_)⟩
    refine ⟨_, rfl, _, rfl, _, _, rfl, ?_⟩
    repeat walk_at "rd"
    refine ite2 (fun h1 => ?_) (fun h1 => ?_)
    · have h1' : q < 0 := of_decide_eq_true h1
      rw [if_pos h1'] at en ed
      repeat walk_at "rd"
      refine ⟨⟨by omega, by rw [Int.natAbs_neg]; exact hgb⟩, ?_⟩
      repeat walk_at "rd"
      refine ⟨⟨by omega, by rw [Int.natAbs_neg]; exact hgb⟩, by show 2 ≤ sizeLine; decide, fun t ht => ?_⟩
      refine out t _ (Same.new ht) ht (upd_same.trans ?_)
      show some (HO.tup [.int (p.fdiv _), .int (q.fdiv _)]) = some (HO.tup [.int _, .int _])
      rw [en, ed]
    · have h1' : ¬ q < 0 := fun z => h1 (decide_eq_true z)
      rw [if_neg h1'] at en ed
      repeat walk_at "rd"
      refine ⟨⟨by omega, hgb⟩, ?_⟩
      repeat walk_at "rd"
      refine ⟨⟨by omega, hgb⟩, by show 2 ≤ sizeLine; decide, fun t ht => ?_⟩
      refine out t _ (Same.new ht) ht (upd_same.trans ?_)
      show some (HO.tup [.int (p.fdiv _), .int (q.fdiv _)]) = some (HO.tup [.int _, .int _])
      rw [en, ed]
/-! ### the program's fractions; the law's own -/
abbrev Sz4k (x : Rat × Rat) : Prop := Sz 4000 x.1 ∧ Sz 4000 x.2
theorem mulY {i j : Int} (h : i.natAbs < 2 ^ 4000) (g : j.natAbs < 2 ^ 4000) : IntMulOk i j := mulB h g (by decide) (by decide)
def AF2 (K : PySem.W.Frag) (x : Rat × Rat) : List SF := [(tFr K).is x.1, (tFr K).is x.2]
abbrev spPlusY (K : PySem.W.Frag) : Sp := spP (AF2 K) (tFr K) Sz4k (fun x => x.1 + x.2)
abbrev spTimesY (K : PySem.W.Frag) : Sp := spP (AF2 K) (tFr K) Sz4k (fun x => x.1 * x.2)
abbrev spOppY (K : PySem.W.Frag) : Sp := spP (fun x : Rat => [(tFr K).is x]) (tFr K) (fun _ => True) (fun x => -x)
abbrev sPlus : Stmt := topS 9
theorem scPlus : FnScope ["a", "b"] ["a", "b"] (defScope sPlus) := ⟨rfl, rfl, rfl, by decide +kernel, rfl, by decide +kernel, by decide +kernel⟩
theorem ok_plus {f : Addr} {fd : FuncData} {k : Nat} (F : Fun K "plus" "plus" sPlus f fd) (c_fraction : Cal P w K mg base k "fraction" ["p", "q"] spFrac) : FnOk P w K mg base CX0 (k + 1) f fd ["a", "b"] (spPlusY K) := by
  refine ok_P F scPlus (fun _ => rfl) fun cdv A outer s H0 S x Q E hr hp out => ⟨_, (pss_one (ps_ret (pe_cal c_fraction hr (by rfl) (pa_cons (pe_op op_add (pe_op op_mulA (pe_ix ix_tup (pv 0) pe_int (fun _ _ => rfl)) (pe_ix ix_tup (pv 1) pe_int (fun _ _ => rfl))) (pe_op op_mulA (pe_ix ix_tup (pv 1) pe_int (fun _ _ => rfl)) (pe_ix ix_tup (pv 0) pe_int (fun _ _ => rfl)))) (pa_cons (pe_op op_mulA (pe_ix ix_tup (pv 0) pe_int (fun _ _ => rfl)) (pe_ix ix_tup (pv 1) pe_int (fun _ _ => rfl))) pa_nil))))), ?_⟩
  obtain ⟨h, g⟩ := hp
  refine go_end (y := x.1 + x.2) (ev_is (ev_frc (ev_add (ev_mul (ev_num (ev_var rfl)) (ev_den (ev_var rfl)) (mulY h.nn g.dd)) (ev_mul (ev_num (ev_var rfl)) (ev_den (ev_var rfl)) (mulY g.nn h.dd))) (ev_mul (ev_den (ev_var rfl)) (ev_den (ev_var rfl)) (mulY h.dd g.dd)) (Int.mul_ne_zero (den_ne _) (den_ne _)) (lt9 (pow_lt h.dd g.dd) (by decide))) (add_div _ _)) out
abbrev sTimes : Stmt := topS 10
theorem scTimes : FnScope ["a", "b"] ["a", "b"] (defScope sTimes) := ⟨rfl, rfl, rfl, by decide +kernel, rfl, by decide +kernel, by decide +kernel⟩
theorem ok_times {f : Addr} {fd : FuncData} {k : Nat} (F : Fun K "times" "times" sTimes f fd) (c_fraction : Cal P w K mg base k "fraction" ["p", "q"] spFrac) : FnOk P w K mg base CX0 (k + 1) f fd ["a", "b"] (spTimesY K) := by
  refine ok_P F scTimes (fun _ => rfl) fun cdv A outer s H0 S x Q E hr hp out => ⟨_, (pss_one (ps_ret (pe_cal c_fraction hr (by rfl) (pa_cons (pe_op op_mulA (pe_ix ix_tup (pv 0) pe_int (fun _ _ => rfl)) (pe_ix ix_tup (pv 1) pe_int (fun _ _ => rfl))) (pa_cons (pe_op op_mulA (pe_ix ix_tup (pv 0) pe_int (fun _ _ => rfl)) (pe_ix ix_tup (pv 1) pe_int (fun _ _ => rfl))) pa_nil))))), ?_⟩
  obtain ⟨h, g⟩ := hp
  refine go_end (y := x.1 * x.2) (ev_is (ev_frc (ev_mul (ev_num (ev_var rfl)) (ev_num (ev_var rfl)) (mulY h.nn g.nn)) (ev_mul (ev_den (ev_var rfl)) (ev_den (ev_var rfl)) (mulY h.dd g.dd)) (Int.mul_ne_zero (den_ne _) (den_ne _)) (lt9 (pow_lt h.dd g.dd) (by decide))) (mul_div _ _)) out
abbrev sOppo : Stmt := topS 11
theorem scOppo : FnScope ["a"] ["a"] (defScope sOppo) := ⟨rfl, rfl, rfl, by decide +kernel, rfl, by decide +kernel, by decide +kernel⟩
theorem ok_oppo {f : Addr} {fd : FuncData} {k : Nat} (F : Fun K "opposite" "opposite" sOppo f fd) : FnOk P w K mg base CX0 (k + 1) f fd ["a"] (spOppY K) := by
  refine ok_P F scOppo (fun _ => rfl) fun cdv A outer s H0 S x Q E hr hp out => ⟨_, (pss_one (ps_ret (pe_tup (pa_cons (pe_un un_neg (pe_ix ix_tup (pv 0) pe_int (fun _ _ => rfl))) (pa_cons (pe_ix ix_tup (pv 0) pe_int (fun _ _ => rfl)) pa_nil))))), ?_⟩
  exact go_end (y := -x) (ev_frac (K := K) (ev_neg (ev_num (ev_var rfl))) (ev_den (ev_var rfl)) rfl rfl) out
abbrev spTotY (K : PySem.W.Frag) : Sp := spP (fun xs : List Rat => [(tLs K (tFr K)).is xs]) (tFr K) (fun xs => ∀ k, k ≤ xs.length → Sz 4000 (rpre xs k) ∧ ∀ r ∈ xs, Sz 4000 r) rsum
abbrev sTotal : Stmt := topS 12
theorem scTotal : FnScope ["values", "result", "value"] ["values"] (defScope sTotal) := ⟨rfl, rfl, rfl, by decide +kernel, rfl, by decide +kernel, by decide +kernel⟩
theorem ok_total {f zZ : Addr} {fd : FuncData} {k : Nat} (F : Fun K "total" "total" sTotal f fd) (c_plus : Cal P w K mg base k "plus" ["a", "b"] (spPlusY K)) (m_ZERO : mg "ZERO" = some (.ref zZ)) (hZ : ∀ H, SqT K H zZ [.int 0, .int 1]) : FnOk P w K mg base CX0 (k + 1) f fd ["values"] (spTotY K) := by
  refine ok_P F scTotal (fun _ => rfl) fun cdv A outer s H0 S xs Q E hr hp out => ⟨_, (pss_cons (ps_set (i := 1) scTotal.nd rfl (Or.inl rfl) (pe_glob (v := .ref zZ) (by rfl) m_ZERO rfl))
      (pss_cons (ps_for PassesOwn.never rfl (pi_list (pv 0)) (pg_name (i := 2) scTotal.nd rfl (Or.inl rfl)) (pss_one (ps_set (i := 1) scTotal.nd rfl (Or.inl rfl) (pe_cal c_plus hr (by rfl) (pa_cons (pv 1) (pa_cons (pv 2) pa_nil))))))
      (pss_one (ps_ret (pv 1))))), ?_⟩
  have hp : ∀ k, k ≤ xs.length → Sz 4000 (rpre xs k) ∧ ∀ r ∈ xs, Sz 4000 r := hp
  refine go_set (t := tFr K) (x := 0) (ev_k fun H => ⟨zZ, rfl, hZ H⟩) ?_
  refine go_seq (go_for (ι := Unit) (iv_list (ev_var rfl)) tgt_name (fun k _ => ([], [some ((tLs K (tFr K)).is xs), some ((tFr K).is (rpre xs k)), none])) (fun _ _ => True) () trivial (fun σ H o => o.sb (by walk_at "sb")) (fun k _ x f hx _ => ?_) (fun _ _ σ H o => ?_))
  · have hk : k < xs.length := (List.getElem?_eq_some_iff.mp hx).1
    obtain ⟨h1, h2⟩ := hp k (Nat.le_of_lt hk)
    refine go_set1 (x := rpre xs k + x) (ev_call (z := (rpre xs k, x)) (ea_cons (ev_var rfl) (ea_cons (ev_var rfl) ea_nil)) ⟨h1, h2 x (List.mem_of_getElem? hx)⟩) fun σ H o => ⟨(), trivial, ?_⟩
    show Ok ⟨H0, [], S, [], [f], [some ((tLs K (tFr K)).is xs), some ((tFr K).is (rpre xs (k + 1))), none]⟩ σ H
    rw [rpre_succ hx]
    exact o.sb (by walk_at "sb")
  · refine go_at o (go_end (y := rpre xs xs.length) (ev_var rfl) out ?_)
    show _ = rsum xs
    rw [← rpre_all]
abbrev RR := List Rat
abbrev prods (x : RR × RR) : RR := (x.1.zip x.2).map fun p => p.1 * p.2
abbrev spProdY (K : PySem.W.Frag) : Sp := spP (fun x : RR × RR => [(tLs K (tFr K)).is x.1, (tLs K (tFr K)).is x.2]) (tFr K) (fun x => x.1.length ≤ 4 ∧ (∀ r ∈ x.1, Sz 240 r) ∧ ∀ r ∈ x.2, Sz 720 r) (fun x => dotR x.1 x.2)
abbrev sProds : Stmt := topS 13
theorem scProds : FnScope ["first", "second", "a", "b"] ["first", "second"] (defScope sProds) := ⟨rfl, rfl, rfl, by decide +kernel, rfl, by decide +kernel, by decide +kernel⟩
theorem ok_prods {f : Addr} {fd : FuncData} {k : Nat} (F : Fun K "products" "products" sProds f fd) (c_total : Cal P w K mg base k "total" ["values"] (spTotY K)) (c_times : Cal P w K mg base k "times" ["a", "b"] (spTimesY K)) (z_zip : mg "zip" = none) : FnOk P w K mg base CX0 (k + 1) f fd ["first", "second"] (spProdY K) := by
  refine ok_P F scProds (fun _ => rfl) fun cdv A outer s H0 S x Q E hr hp out => ⟨_, (pss_one (ps_ret (pe_cal c_total hr (by rfl) (pa_cons (pe_lc (own := [("a", 2), ("b", 3)]) (g := gTup K 2 (gCons (gName 2) (gCons (gName 3) gNil))) (tt := tYes) rfl scProds.nd (pi_zip (by rfl) z_zip (pa_cons (pv 0) (pa_cons (pv 1) pa_nil))) (blkOk_by (own := [("a", 2), ("b", 3)]) (N := ["first", "second", "a", "b"]) (sc := defScope sProds) (by decide +kernel)) (fun _ _ _ _ _ => (pg_tup rfl (pgs_cons (pg_name (i := 2) scProds.nd rfl (Or.inl rfl)) (pgs_cons (pg_name (i := 3) scProds.nd rfl (Or.inl rfl)) pgs_nil)))) (fun _ _ _ _ _ => pts_nil) (fun _ _ _ _ _ => (pe_cal c_times hr (by rfl) (pa_cons (pv 2) (pa_cons (pv 3) pa_nil))))) pa_nil)))), ?_⟩
  obtain ⟨h4, h1, h2⟩ := hp
  have zl : (x.1.zip x.2).length ≤ 4 := by rw [List.length_zip]; omega
  refine go_end (y := dotR x.1 x.2) (ev_call (z := prods x) (ea_cons (ev_lcm (K := K) (f := fun p : Rat × Rat => p.1 * p.2) (iv_zip (ev_var rfl) (ev_var rfl)) tgt_pair (by simp) (Nat.lt_of_le_of_lt zl (by decide)) fun D φ F p _ hm => ?_) ea_nil) ?_) out
  · obtain ⟨a1, a2⟩ := List.of_mem_zip (a := p.1) (b := p.2) hm
    exact ev_call (z := (p.1, p.2)) (ea_cons (ev_var rfl) (ea_cons (ev_var rfl) ea_nil)) ⟨(h1 _ a1).mono (by decide), (h2 _ a2).mono (by decide)⟩
  · have a : ∀ r ∈ prods x, Sz 960 r := fun r m => by
      obtain ⟨p, hm, rfl⟩ := List.mem_map.mp m
      obtain ⟨a1, a2⟩ := List.of_mem_zip (a := p.1) (b := p.2) hm
      exact szM2 (h1 _ a1) (h2 _ a2)
    refine fun k hk => ⟨(sz_pre a (by decide) (by rw [List.length_map]; exact zl) k).mono (by decide), fun r m => (a r m).mono (by decide)⟩
/-! the law's -/
theorem lt24 {i : Int} {a : Nat} (h : i.natAbs < 2 ^ a) (k : a ≤ 2400) : i.natAbs < 2 ^ 2400 := Nat.lt_of_lt_of_le h (Nat.pow_le_pow_right (by decide) k)
structure SzAdd (x : Rat × Rat) : Prop where
  ex : ∃ m n, m + n ≤ 2390 ∧ Sz m x.1 ∧ Sz n x.2
abbrev spLAddY (K : PySem.W.Frag) : Sp := spP (AF2 K) (tFr K) SzAdd (fun x => x.1 + x.2)
abbrev spLTimesY (K : PySem.W.Frag) : Sp := spP (AF2 K) (tFr K) SzAdd (fun x => x.1 * x.2)
theorem mulW9 {i j : Int} {a b : Nat} (h : i.natAbs < 2 ^ a) (g : j.natAbs < 2 ^ b) (k : a + b ≤ 2390) : IntMulOk i j := mulY (Nat.lt_of_lt_of_le h (Nat.pow_le_pow_right (by decide) (by omega))) (Nat.lt_of_lt_of_le g (Nat.pow_le_pow_right (by decide) (by omega)))
abbrev sLAdd : Stmt := topS 43
theorem scLAdd : FnScope ["a", "b"] ["a", "b"] (defScope sLAdd) := ⟨rfl, rfl, rfl, by decide +kernel, rfl, by decide +kernel, by decide +kernel⟩
theorem ok_ladd {f : Addr} {fd : FuncData} {k : Nat} (F : Fun K "_law_add" "_law_add" sLAdd f fd) (c_law_ratio : Cal P w K mg base k "_law_ratio" ["p", "q"] spRatio) : FnOk P w K mg base CX0 (k + 1) f fd ["a", "b"] (spLAddY K) := by
  refine ok_P F scLAdd (fun _ => rfl) fun cdv A outer s H0 S x Q E hr hp out => ⟨_, (pss_one (ps_ret (pe_cal c_law_ratio hr (by rfl) (pa_cons (pe_op op_add (pe_op op_mulA (pe_ix ix_tup (pv 0) pe_int (fun _ _ => rfl)) (pe_ix ix_tup (pv 1) pe_int (fun _ _ => rfl))) (pe_op op_mulA (pe_ix ix_tup (pv 1) pe_int (fun _ _ => rfl)) (pe_ix ix_tup (pv 0) pe_int (fun _ _ => rfl)))) (pa_cons (pe_op op_mulA (pe_ix ix_tup (pv 0) pe_int (fun _ _ => rfl)) (pe_ix ix_tup (pv 1) pe_int (fun _ _ => rfl))) pa_nil))))), ?_⟩
  obtain ⟨m, n, hmn, h, g⟩ := hp.ex
  have e1 : (x.1.num * (x.2.den : Int)).natAbs < 2 ^ (m + n) := pow_lt h.nn g.dd
  have e2 : (x.2.num * (x.1.den : Int)).natAbs < 2 ^ (m + n) := by rw [Nat.add_comm m n]; exact pow_lt g.nn h.dd
  refine go_end (y := x.1 + x.2) (ev_is (ev_ratio (ev_add (ev_mul (ev_num (ev_var rfl)) (ev_den (ev_var rfl)) (mulW9 h.nn g.dd hmn)) (ev_mul (ev_num (ev_var rfl)) (ev_den (ev_var rfl)) (mulW9 g.nn h.dd (by omega)))) (ev_mul (ev_den (ev_var rfl)) (ev_den (ev_var rfl)) (mulW9 h.dd g.dd hmn)) (Int.mul_ne_zero (den_ne _) (den_ne _)) (lt24 (add_lt e1 e2) (by omega)) (lt24 (pow_lt h.dd g.dd) (by omega))) (add_div _ _)) out
abbrev sLTimes : Stmt := topS 44
theorem scLTimes : FnScope ["a", "b"] ["a", "b"] (defScope sLTimes) := ⟨rfl, rfl, rfl, by decide +kernel, rfl, by decide +kernel, by decide +kernel⟩
theorem ok_ltimes {f : Addr} {fd : FuncData} {k : Nat} (F : Fun K "_law_times" "_law_times" sLTimes f fd) (c_law_ratio : Cal P w K mg base k "_law_ratio" ["p", "q"] spRatio) : FnOk P w K mg base CX0 (k + 1) f fd ["a", "b"] (spLTimesY K) := by
  refine ok_P F scLTimes (fun _ => rfl) fun cdv A outer s H0 S x Q E hr hp out => ⟨_, (pss_one (ps_ret (pe_cal c_law_ratio hr (by rfl) (pa_cons (pe_op op_mulA (pe_ix ix_tup (pv 0) pe_int (fun _ _ => rfl)) (pe_ix ix_tup (pv 1) pe_int (fun _ _ => rfl))) (pa_cons (pe_op op_mulA (pe_ix ix_tup (pv 0) pe_int (fun _ _ => rfl)) (pe_ix ix_tup (pv 1) pe_int (fun _ _ => rfl))) pa_nil))))), ?_⟩
  obtain ⟨m, n, hmn, h, g⟩ := hp.ex
  refine go_end (y := x.1 * x.2) (ev_is (ev_ratio (ev_mul (ev_num (ev_var rfl)) (ev_num (ev_var rfl)) (mulW9 h.nn g.nn hmn)) (ev_mul (ev_den (ev_var rfl)) (ev_den (ev_var rfl)) (mulW9 h.dd g.dd hmn)) (Int.mul_ne_zero (den_ne _) (den_ne _)) (lt24 (pow_lt h.nn g.nn) (by omega)) (lt24 (pow_lt h.dd g.dd) (by omega))) (mul_div _ _)) out
abbrev spLTotY (K : PySem.W.Frag) : Sp := spP (fun xs : List Rat => [(tLs K (tFr K)).is xs]) (tFr K) (fun xs => xs.length ≤ 4 ∧ ∀ r ∈ xs, Sz 590 r) rsum
abbrev sLTotal : Stmt := topS 45
theorem scLTotal : FnScope ["values", "result", "value"] ["values"] (defScope sLTotal) := ⟨rfl, rfl, rfl, by decide +kernel, rfl, by decide +kernel, by decide +kernel⟩
theorem ok_ltotal {f : Addr} {fd : FuncData} {k : Nat} (F : Fun K "_law_total" "_law_total" sLTotal f fd) (c_law_add : Cal P w K mg base k "_law_add" ["a", "b"] (spLAddY K)) : FnOk P w K mg base CX0 (k + 1) f fd ["values"] (spLTotY K) := by
  refine ok_P F scLTotal (fun _ => rfl) fun cdv A outer s H0 S xs Q E hr hp out => ⟨_, (pss_cons (ps_set (i := 1) scLTotal.nd rfl (Or.inl rfl) (pe_tup (pa_cons pe_int (pa_cons pe_int pa_nil))))
      (pss_cons (ps_for PassesOwn.never rfl (pi_list (pv 0)) (pg_name (i := 2) scLTotal.nd rfl (Or.inl rfl)) (pss_one (ps_set (i := 1) scLTotal.nd rfl (Or.inl rfl) (pe_cal c_law_add hr (by rfl) (pa_cons (pv 1) (pa_cons (pv 2) pa_nil))))))
      (pss_one (ps_ret (pv 1))))), ?_⟩
  obtain ⟨h4, h1⟩ := hp
  have h4 : xs.length ≤ 4 := h4
  refine go_set (t := tFr K) (x := 0) (ev_frac (K := K) ev_int ev_int rfl rfl) ?_
  refine go_seq (go_for (ι := Unit) (iv_list (ev_var rfl)) tgt_name (fun k _ => ([], [some ((tLs K (tFr K)).is xs), some ((tFr K).is (rpre xs k)), none])) (fun _ _ => True) () trivial (fun σ H o => o.sb (by walk_at "sb")) (fun k _ x f hx _ => ?_) (fun _ _ σ H o => ?_))
  · have hk : k < xs.length := (List.getElem?_eq_some_iff.mp hx).1
    refine go_set1 (x := rpre xs k + x) (ev_call (z := (rpre xs k, x)) (ea_cons (ev_var rfl) (ea_cons (ev_var rfl) ea_nil)) ⟨591 * 3 + 1, 590, by decide, (sz_preK h1 k).mono (by omega), h1 x (List.mem_of_getElem? hx)⟩) fun σ H o => ⟨(), trivial, ?_⟩
    show Ok ⟨H0, [], S, [], [f], [some ((tLs K (tFr K)).is xs), some ((tFr K).is (rpre xs (k + 1))), none]⟩ σ H
    rw [rpre_succ hx]
    exact o.sb (by walk_at "sb")
  · refine go_at o (go_end (y := rpre xs xs.length) (ev_var rfl) out ?_)
    show _ = rsum xs
    rw [← rpre_all]
abbrev spLDotY (K : PySem.W.Frag) : Sp := spP (fun x : RR × RR => [(tLs K (tFr K)).is x.1, (tLs K (tFr K)).is x.2]) (tFr K) (fun x => x.1.length ≤ 4 ∧ x.2.length = x.1.length ∧ (∀ r ∈ x.1, Sz 100 r) ∧ ∀ r ∈ x.2, Sz 490 r) (fun x => dotR x.1 x.2)
abbrev sLDot : Stmt := topS 46
theorem scLDot : FnScope ["first", "second", "k"] ["first", "second"] (defScope sLDot) := ⟨rfl, rfl, rfl, by decide +kernel, rfl, by decide +kernel, by decide +kernel⟩
theorem ok_ldot {f : Addr} {fd : FuncData} {k : Nat} (F : Fun K "_law_dot" "_law_dot" sLDot f fd) (c_law_total : Cal P w K mg base k "_law_total" ["values"] (spLTotY K)) (c_law_times : Cal P w K mg base k "_law_times" ["a", "b"] (spLTimesY K)) (z_range : mg "range" = none) (z_min : mg "min" = none) (z_len : mg "len" = none) : FnOk P w K mg base CX0 (k + 1) f fd ["first", "second"] (spLDotY K) := by
  refine ok_P F scLDot (fun _ => rfl) fun cdv A outer s H0 S x Q E hr hp out => ⟨_, (pss_one (ps_ret (pe_cal c_law_total hr (by rfl) (pa_cons (pe_lc (own := [("k", 2)]) (g := gName 2) (tt := tYes) rfl scLDot.nd (pi_range1 (by rfl) z_range (pa_cons (pe_callB (call_min2 rfl) (by rfl) z_min (by decide +kernel) (pa_cons (pe_callB call_len_seq (by rfl) z_len PySem.boot_len (pa_cons (pv 0) pa_nil)) (pa_cons (pe_callB call_len_seq (by rfl) z_len PySem.boot_len (pa_cons (pv 1) pa_nil)) pa_nil))) pa_nil)) (blkOk_by (own := [("k", 2)]) (N := ["first", "second", "k"]) (sc := defScope sLDot) (by decide +kernel)) (fun _ _ _ _ _ => (pg_name (i := 2) scLDot.nd rfl (Or.inl rfl))) (fun _ _ _ _ _ => pts_nil) (fun _ _ _ _ _ => (pe_cal c_law_times hr (by rfl) (pa_cons (pe_ix (ix_lstK (K := K) rfl) (pv 0) (pv 2) (fun _ _ => rfl)) (pa_cons (pe_ix (ix_lstK (K := K) rfl) (pv 1) (pv 2) (fun _ _ => rfl)) pa_nil))))) pa_nil)))), ?_⟩
  obtain ⟨h4, hl, h1, h2⟩ := hp
  have h4 : x.1.length ≤ 4 := h4
  have hl : x.2.length = x.1.length := hl
  have zl : (x.1.zip x.2).length = x.1.length := by rw [List.length_zip]; omega
  have e : ((List.range ((x.1.length : Int)).toNat).map fun (i : Nat) => (i : Int)).map (fun i => x.1.getD i.toNat 0 * x.2.getD i.toNat 0) = prods x := by
    refine List.ext_getElem? fun i => ?_
    rw [List.map_map, List.getElem?_map, List.getElem?_map, Int.toNat_natCast]
    by_cases c : i < x.1.length
    · have z : (x.1.zip x.2)[i]? = some (x.1[i], x.2[i]'(by omega)) := by
        rw [List.getElem?_zip_eq_some]
        exact ⟨List.getElem?_eq_getElem c, List.getElem?_eq_getElem (by omega)⟩
      rw [List.getElem?_range c, z]
      show some (x.1.getD ((i : Int)).toNat 0 * x.2.getD ((i : Int)).toNat 0) = some (x.1[i] * x.2[i]'(by omega))
      rw [Int.toNat_natCast, List.getD_eq_getElem?_getD, List.getD_eq_getElem?_getD, List.getElem?_eq_getElem c, List.getElem?_eq_getElem (show i < x.2.length by omega)]
      rfl
    · rw [List.getElem?_eq_none (by rw [List.length_range]; omega), List.getElem?_eq_none (by omega)]
      rfl
  have rd : (if ((x.2.length : Nat) : Int) < ((x.1.length : Nat) : Int) then ((x.2.length : Nat) : Int) else ((x.1.length : Nat) : Int)) = (x.1.length : Int) := if_neg (by omega)
  refine go_end (y := dotR x.1 x.2) (ev_call (z := prods x) (ea_cons (ev_is (ev_lcm (K := K) (f := fun i : Int => x.1.getD i.toNat 0 * x.2.getD i.toNat 0) (iv_range1 (ev_is (ev_min (ev_len (ev_var rfl)) (ev_len (ev_var rfl))) rd) (by omega) (by omega)) tgt_name (by simp) (by rw [List.length_map, List.length_range]; exact Nat.lt_of_le_of_lt (show _ ≤ 4 by omega) (by decide)) fun D φ F i _ hm => ?_) e) ea_nil) ⟨by show (List.map _ _).length ≤ 4; rw [List.length_map]; omega, fun r m => ?_⟩) out
  · obtain ⟨j, hj, rfl⟩ := List.mem_map.mp hm
    have hj := List.mem_range.mp hj
    have c : j < x.1.length := by omega
    refine ev_call (z := (x.1.getD ((j : Nat) : Int).toNat 0, x.2.getD ((j : Nat) : Int).toNat 0)) (ea_cons (ev_ixL (ev_var rfl) (ev_var rfl) (atI_D (by omega) (by omega))) (ea_cons (ev_ixL (ev_var rfl) (ev_var rfl) (atI_D (by omega) (by omega))) ea_nil)) ⟨100, 490, by decide, h1 _ (getD_mem (by omega)), h2 _ (getD_mem (by omega))⟩
  · obtain ⟨p, hm, rfl⟩ := List.mem_map.mp m
    obtain ⟨a1, a2⟩ := List.of_mem_zip (a := p.1) (b := p.2) hm
    exact szM2 (h1 _ a1) (h2 _ a2)
end
end Cs
set_option maxHeartbeats 4000000
namespace Cs
open PySem PySem.Spec PyProof.Rows L2
section
variable {α β γ : Type} {W : Wd} {K : PySem.W.Frag} {ta tb tc te : TE} {t : Ty α} {u : Ty β} {x : α} {y : β} {tt uu : TT} {ar : TA} {ts us : TS} {D : Ends} {p : Addr} {xs : List α} {R : List RS}
/-- an item of a list that is changed -/
theorem ev_ixK {s : Nat} {n : Int} (hs : W.G[s]? = some (some (tRf.is p))) (hL : cell p (cLs t xs) ∈ W.L) (hb : Ev W tb tInt n) (e : atI xs n = some x) : Ev W (tOp (rIxL K) (tVar s) tb) t x := fun σ H o Q q => by
  obtain ⟨v, h1, rfl⟩ := o.slots s _ hs
  refine ⟨.ref p, h1, hb σ H o _ fun w H1 g1 r1 => ?_⟩
  obtain rfl : w = .int n := r1
  obtain ⟨ob, hob, vs, rfl, al⟩ := g1.ok.at_ _ hL
  obtain ⟨j, hj, hx⟩ := Option.bind_eq_some_iff.mp e
  obtain ⟨z, hz, rz⟩ := al.get hx
  have hz2 : atI vs n = some z := by
    unfold atI
    rw [al.length, hj]
    exact hz
  exact ⟨p, vs, n, z, rfl, rfl, .inl (.inl hob), hz2, q z H1 g1 rz⟩
theorem go_setLs {j : Nat} {n : Int} {s : Nat} (hs : W.G[s]? = some (some (tRf.is p))) (hL : W.L.Perm (cell p (cLs t xs) :: R)) (he : Ev W te t x) (hb : Ev W tb tInt n) (hj : ixN xs.length n = some j) (k : Go { W with L := cell p (cLs t (xs.set j x)) :: R } us D) : Go W (tSeq (tAsg te (gSub (tVar s) tb rSetL)) us) D := fun σ H o =>
  he σ H o _ fun w H1 g1 r1 => by
    obtain ⟨v, h1, rfl⟩ := g1.ok.slots s _ hs
    refine ⟨.ref p, h1, hb σ H1 g1.ok _ fun w3 H3 g3 r3 => ?_⟩
    obtain rfl : w3 = .int n := r3
    obtain ⟨ob, hob, vs, rfl, al⟩ := g3.ok.at_ _ (hL.mem_iff.mpr (List.mem_cons_self ..))
    exact ⟨p, vs, n, j, rfl, rfl, hob, by rw [al.length]; exact hj, k _ _ ((g3.ok.perm hL).write (ψ := cLs t (xs.set j x)) (o := .lst (vs.set j w)) rfl ⟨_, rfl, al.set (t.mono g3.up r1) j⟩).ok⟩
end
end Cs
set_option maxHeartbeats 4000000
set_option maxHeartbeats 4000000
namespace Cs
open PySem PySem.Spec PyProof.Rows L2
/-! ### dicts by numbers, all of them known; what they say -/
section
variable {α β γ : Type} {W : Wd} {K : PySem.W.Frag} {ta td ty te : TE} {t : Ty α} {x : α}
def frD (r : Rat) : PyData := .tuple [.int r.num, .int r.den]
/-! ### how long it is -/
end
end Cs
set_option maxHeartbeats 4000000
set_option maxHeartbeats 4000000
namespace Cs
open PySem PySem.Spec PyProof.Rows L2
/-! ### lists of work: pop, extend by a list turned round -/
section
variable {α : Type} {W : Wd} {K : PySem.W.Frag} {te : TE} {t : Ty α} {x : α} {xs ys : List α} {R : List RS} {us : TS} {D : Ends} {i j : Nat} {p : Addr}
theorem All2.last {r : V → α → Prop} {x : α} : ∀ {vs : List V} {xs : List α}, All2 r vs (xs ++ [x]) → ∃ ws v, vs = ws ++ [v] ∧ All2 r ws xs ∧ r v x
  | [], [], h => h.elim
  | v :: vs, [], h => by
    cases vs with
    | nil => exact ⟨[], v, rfl, trivial, h.1⟩
    | cons _ _ => exact h.2.elim
  | [], _ :: _, h => h.elim
  | v :: vs, y :: xs, h => by
    obtain ⟨ws, u, rfl, a, b⟩ := All2.last (vs := vs) (xs := xs) h.2
    exact ⟨v :: ws, u, rfl, ⟨h.1, a⟩, b⟩
end
end Cs
set_option maxHeartbeats 4000000
set_option maxHeartbeats 4000000
namespace Cs
open PySem PySem.Spec PyProof.Rows L2
/-! ### dicts whose keys are tuples of numbers, texts and such tuples -/
abbrev NK := PySem.NestedKey
abbrev NkX := NK × Addr × Value
/-- the tuple at b is the key k -/
def NkAt (K : PySem.W.Frag) (H : Hp) (b : Addr) (k : NK) : Prop := Dp K H (.ref b) k.data ∧ k.depth ≤ 8
theorem NkAt.mono {K : PySem.W.Frag} {H H' : Hp} {b : Addr} {k : NK} (e : Same H H') (h : NkAt K H b k) : NkAt K H' b k := ⟨dp_mono e h.1, h.2⟩
/-! ### in the typed layer -/
def DkN (K : PySem.W.Frag) {α : Type} (r : Hp → V → α → Prop) (F : Hp) : List NkX → List (NK × α) → Prop
  | [], [] => True
  | x :: xs, m :: ms => x.1 = m.1 ∧ NkAt K F x.2.1 x.1 ∧ (∃ v, RelV v x.2.2 ∧ r F v m.2) ∧ DkN K r F xs ms
  | _, _ => False
def lkN {α : Type} (ms : List (NK × α)) (k : NK) : Option α := (ms.find? fun m => decide (m.1 = k)).map (·.2)
section
variable {K : PySem.W.Frag} {α : Type} {t : Ty α} {F F' : Hp}
theorem DkN.mono (e : Same F F') : ∀ {xs : List NkX} {ms : List (NK × α)}, DkN K t.r F xs ms → DkN K t.r F' xs ms
  | [], [], _ => trivial
  | _ :: _, _ :: _, ⟨a, b, ⟨v, c, d⟩, h⟩ => ⟨a, b.mono e, ⟨v, c, t.mono e d⟩, DkN.mono e h⟩
  | [], _ :: _, h => h.elim
  | _ :: _, [], h => h.elim
theorem DkN.length : ∀ {xs : List NkX} {ms : List (NK × α)}, DkN K t.r F xs ms → xs.length = ms.length
  | [], [], _ => rfl
  | _ :: _, _ :: _, ⟨_, _, _, h⟩ => by rw [List.length_cons, List.length_cons, DkN.length h]
  | [], _ :: _, h => h.elim
  | _ :: _, [], h => h.elim
theorem DkN.all : ∀ {xs : List NkX} {ms : List (NK × α)}, DkN K t.r F xs ms → ∀ x ∈ xs, NkAt K F x.2.1 x.1
  | [], [], _ => fun x m => nomatch m
  | y :: _, _ :: _, ⟨_, b, _, h⟩ => fun x m => by
    rcases List.mem_cons.mp m with m | m
    · rw [m]; exact b
    · exact DkN.all h x m
  | [], _ :: _, h => h.elim
  | _ :: _, [], h => h.elim
theorem DkN.app : ∀ {xs ys : List NkX} {ms ns : List (NK × α)}, DkN K t.r F xs ms → DkN K t.r F ys ns → DkN K t.r F (xs ++ ys) (ms ++ ns)
  | [], _, [], _, _, g => g
  | _ :: _, _, _ :: _, _, ⟨a, b, c, h⟩, g => ⟨a, b, c, DkN.app h g⟩
  | [], _, _ :: _, _, h, _ => h.elim
  | _ :: _, _, [], _, h, _ => h.elim
theorem atKey_cons {x : NkX} {xs : List NkX} {k : NK} : atKey (x :: xs) k = if x.1 = k then some x.2 else atKey xs k := by
  unfold atKey
  rw [List.find?_cons]
  by_cases e : x.1 = k
  · simp [e]
  · simp [e]
theorem lkN_cons {m : NK × α} {ms : List (NK × α)} {k : NK} : lkN (m :: ms) k = if m.1 = k then some m.2 else lkN ms k := by
  unfold lkN
  rw [List.find?_cons]
  by_cases e : m.1 = k
  · simp [e]
  · simp [e]
theorem DkN.val {k : NK} : ∀ {xs : List NkX} {ms : List (NK × α)}, DkN K t.r F xs ms → match lkN ms k with
    | none => atKey xs k = none
    | some x => ∃ p v, atKey xs k = some p ∧ RelV v p.2 ∧ t.r F v x
  | [], [], _ => rfl
  | y :: xs, m :: ms, ⟨a, b, ⟨v, c, d⟩, h⟩ => by
    have ih := DkN.val (k := k) h
    rw [lkN_cons, atKey_cons, a]
    by_cases e : m.1 = k
    · rw [if_pos e, if_pos e]; exact ⟨_, v, rfl, c, d⟩
    · rw [if_neg e, if_neg e]; exact ih
  | [], _ :: _, h => h.elim
  | _ :: _, [], h => h.elim
end
end Cs
set_option maxHeartbeats 4000000
set_option maxHeartbeats 4000000
namespace Cs
open PySem PySem.Spec PyProof.Rows L2
/-! ### an own def that may raise, its last argument left out, called in a try -/
def CalDX (P : Program) (w : World) (K : PySem.W.Frag) (mg : Str → Option Value) (base : Heap) (k : Nat) (x : Str) (ps : List Str) (dvs : List V) (sp : Sp) : Prop :=
  ∃ (f : Addr) (fd : FuncData) (ds : List Value), FnOk P w K mg base (L2.CX P w) k f fd ps sp ∧ mg x = some (.ref f) ∧ PySem.W.keepIn K (.ref f) = true ∧ Binds K fd ps ds ∧ Vals dvs ds
section
variable {X : Cx} {k : Nat} {x : Str} {ps : List Str} {sp : Sp} {p pos : Pos} {e : Expr} {es : List Expr} {t : TA} {E : L2.St → XK}
theorem CalDX.mono {P : Program} {w : World} {K : PySem.W.Frag} {mg : Str → Option Value} {base : Heap} {j k : Nat} {dvs : List V} (c : CalDX P w K mg base j x ps dvs sp) (h : j ≤ k) : CalDX P w K mg base k x ps dvs sp := by
  obtain ⟨f, fd, ds, F, g⟩ := c
  exact ⟨f, fd, ds, F.mono h, g⟩
end
end Cs
set_option maxHeartbeats 4000000
set_option maxHeartbeats 4000000
set_option maxHeartbeats 4000000
set_option maxHeartbeats 4000000
set_option maxHeartbeats 4000000
set_option maxHeartbeats 4000000
namespace Cs
open PySem PySem.Spec PyProof.Rows L2
/-! ### expressions -/
inductive Ex
  | leaf (w : Str) (h : List PyData)
  | una (w : Str) (h : List PyData) (a : Ex)
  | bin (w : Str) (a b : Ex)
  | tri (a b c : Ex)
namespace Ex
def word : Ex → Str
  | leaf w _ => w
  | una w _ _ => w
  | bin w _ _ => w
  | tri _ _ _ => "if"
def head : Ex → List PyData
  | leaf _ h => h
  | una _ h _ => h
  | _ => []
def parts : Ex → List Ex
  | leaf _ _ => []
  | una _ _ a => [a]
  | bin _ a b => [a, b]
  | tri a b c => [a, b, c]
def dep : Ex → Nat
  | leaf _ _ => 0
  | una _ _ a => a.dep + 1
  | bin _ a b => max a.dep b.dep + 1
  | tri a b c => max a.dep (max b.dep c.dep) + 1
def size : Ex → Nat
  | leaf _ _ => 1
  | una _ _ a => a.size + 1
  | bin _ a b => a.size + b.size + 1
  | tri a b c => a.size + b.size + c.size + 1
end Ex
def timedW : List Str := ["ever", "always", "before"]
def compW : List Str := ["less", "atmost", "equal"]
def arithW : List Str := ["add", "subtract", "min", "max"]
def numW : List Str := ["number", "money", "percent"]
def boolW : List Str := ["true", "false"]
/-- a fraction as it is drawn -/
def NF (r : Rat) : Prop := 0 ≤ r.num ∧ r.num < 10 ^ 12 ∧ r.den < 10 ^ 12
/-- the kinds -/
def prodK (k l : Str) : Option Str := if k = "truth" ∨ l = "truth" then none else if k = "count" then some l else if l = "count" then some k else if k = "rate" ∧ l = "rate" then some "rate" else if k = "money" ∧ l = "money" then none else some "money"
def kinds3 : List Str := ["count", "money", "rate"]
/-- how an expression is drawn -/
def litW (k : Str) : Str := if k = "rate" then "percent" else if k = "money" then "money" else "number"
inductive Bld (names : List Str) (lets : List (Str × Str)) : Str → Nat → Ex → Prop
  | tru {n : Nat} {w : Str} (hw : w ∈ boolW) : Bld names lets "truth" n (.leaf w [])
  | fact {n i : Nat} {k z : Str} (hk : kinds3[i]? = some k) (hz : names[i]? = some z) : Bld names lets k n (.leaf "fact" [.str z])
  | rate {n i : Nat} {z : Str} (hi : 3 ≤ i ∧ i < 5) (hz : names[i]? = some z) : Bld names lets "rate" n (.leaf "rate" [.str z])
  | name {n : Nat} {k z : Str} (hk : k ∈ kinds3) (hz : (z, k) ∈ lets) : Bld names lets k n (.leaf "name" [.str z])
  | lit {n : Nat} {k : Str} (hk : k ∈ kinds3) (r : Rat) (hr : NF r) : Bld names lets k n (.leaf (litW k) [frD r])
  | ite {n : Nat} {k : Str} {a b c : Ex} (ha : Bld names lets "truth" n a) (hb : Bld names lets k n b) (hc : Bld names lets k n c) : Bld names lets k (n + 1) (.tri a b c)
  | cmp {n : Nat} {w k : Str} {a b : Ex} (hw : w ∈ compW) (hk : k ∈ kinds3) (ha : Bld names lets k n a) (hb : Bld names lets k n b) : Bld names lets "truth" (n + 1) (.bin w a b)
  | nt {n : Nat} {a : Ex} (ha : Bld names lets "truth" n a) : Bld names lets "truth" (n + 1) (.una "not" [] a)
  | log {n : Nat} {w : Str} {a b : Ex} (hw : w ∈ [("and" : Str), "or"]) (ha : Bld names lets "truth" n a) (hb : Bld names lets "truth" n b) : Bld names lets "truth" (n + 1) (.bin w a b)
  | tim {n : Nat} {w : Str} {d : Int} {a : Ex} (hw : w ∈ timedW) (h0 : 1 ≤ d) (h1 : d ≤ 4) (ha : Bld names lets "truth" n a) : Bld names lets "truth" (n + 1) (.una w [.int d] a)
  | mul {n : Nat} {k l m : Str} {a b : Ex} (hk : k ∈ kinds3) (hl : l ∈ kinds3) (hm : prodK k l = some m) (ha : Bld names lets k n a) (hb : Bld names lets l n b) : Bld names lets m (n + 1) (.bin "multiply" a b)
  | ari {n : Nat} {w k : Str} {a b : Ex} (hw : w ∈ arithW) (hk : k ∈ kinds3) (ha : Bld names lets k n a) (hb : Bld names lets k n b) : Bld names lets k (n + 1) (.bin w a b)
theorem Bld.up {names : List Str} {lets : List (Str × Str)} {k : Str} {n m : Nat} {e : Ex} (h : Bld names lets k n e) : n ≤ m → Bld names lets k m e := by
  induction h generalizing m with
  | tru hw => exact fun _ => .tru hw
  | fact hk hz => exact fun _ => .fact hk hz
  | rate hi hz => exact fun _ => .rate hi hz
  | name hk hz => exact fun _ => .name hk hz
  | lit hk r hr => exact fun _ => .lit hk r hr
  | ite _ _ _ ia ib ic => exact fun l => by cases m with
    | zero => omega
    | succ m => exact .ite (ia (by omega)) (ib (by omega)) (ic (by omega))
  | cmp hw hk _ _ ia ib => exact fun l => by cases m with
    | zero => omega
    | succ m => exact .cmp hw hk (ia (by omega)) (ib (by omega))
  | nt _ ia => exact fun l => by cases m with
    | zero => omega
    | succ m => exact .nt (ia (by omega))
  | log hw _ _ ia ib => exact fun l => by cases m with
    | zero => omega
    | succ m => exact .log hw (ia (by omega)) (ib (by omega))
  | tim hw h0 h1 _ ia => exact fun l => by cases m with
    | zero => omega
    | succ m => exact .tim hw h0 h1 (ia (by omega))
  | mul hk hl hm _ _ ia ib => exact fun l => by cases m with
    | zero => omega
    | succ m => exact .mul hk hl hm (ia (by omega)) (ib (by omega))
  | ari hw hk _ _ ia ib => exact fun l => by cases m with
    | zero => omega
    | succ m => exact .ari hw hk (ia (by omega)) (ib (by omega))
end Cs
set_option maxHeartbeats 4000000
namespace Cs
open PySem PySem.Spec PyProof.Rows L2
/-! ### drawn names -/
def keyW1 : Str := "bond by units face from to every months count adjust record rank let coupon promise must grace cross call"
def keyW2 : Str := " at percent if then else or and not true false fact rate min max ever always before"
def KEYS : List Str := Txt.split (keyW1 ++ keyW2) " "
abbrev low (c : Nat) : Prop := 97 ≤ c ∧ c ≤ 122
structure NmI (i : Nat) (z : Str) : Prop where
  ex : ∃ l, z = SX.S l ∧ (l.length ≤ 5 ∨ l.getLast? = some (97 + i)) ∧ 1 ≤ l.length ∧ l.length ≤ 11 ∧ ∀ c ∈ l, low c
  nk : z ∉ KEYS
theorem NmI.len {i : Nat} {z : Str} (h : NmI i z) : z.length ≤ 11 := by
  obtain ⟨l, rfl, _, _, h2, _⟩ := h.ex
  rw [SX.S_len]; exact h2
end Cs
set_option maxHeartbeats 4000000
namespace Cs
open PySem L2
/-! ### the pieces of a line, as rows of code points -/
def isLl (c : Nat) : Bool := decide (97 ≤ c) && decide (c ≤ 122)
def isDd (c : Nat) : Bool := decide (48 ≤ c) && decide (c ≤ 57)
def SHO : List Nat := [60, 62, 61, 43, 45, 42, 36, 40, 41, 44]
def isSs (c : Nat) : Bool := SHO.contains c
def kOf (c : Nat) : Str := if isLl c = true then "word" else if isDd c = true then "number" else if isSs c = true then "sign" else ""
/-! ### what the law draws -/
def Num (t : List Nat) : Prop := t ≠ [] ∧ t.length ≤ 12 ∧ t.all isDd = true ∧ (t = [48] ∨ t.head? ≠ some 48)
def SIGNS : List (List Nat) := [[60, 61], [62, 61], [60], [61], [62], [43], [45], [42], [36], [40], [41], [44]]
inductive Shape : List Nat → Prop
  | word {t : List Nat} (n : t ≠ []) (h : t.all isLl = true) : Shape t
  | num {t : List Nat} (n : t ≠ []) (h : t.all isDd = true) : Shape t
  | rat {a b : List Nat} (n : a ≠ []) (h : a.all isDd = true) (m : b ≠ []) (g : b.all isDd = true) : Shape (a ++ 47 :: b)
  | sign {t : List Nat} (h : t ∈ SIGNS) : Shape t
  | other {c : Nat} (h : kOf c = "") (h1 : c ≠ 60 ∧ c ≠ 62 ∧ c ≠ 32) : Shape [c]
/-! ### the line as segments: spaces, kind, text -/
abbrev Seg := Nat × Str × List Nat
/-- the pieces that the law draws -/
inductive Piece : Str → List Nat → Prop
  | word {t : List Nat} (n : t ≠ []) (l : t.length ≤ 12) (h : t.all isLl = true) : Piece "word" t
  | num {t : List Nat} (h : Num t) : Piece "number" t
  | rat {a b : List Nat} (h : Num a) (g : Num b) (z : b ≠ [48]) : Piece "number" (a ++ 47 :: b)
  | sign {t : List Nat} (h : t ∈ SIGNS) : Piece "sign" t
theorem Piece.shape {k : Str} {t : List Nat} (p : Piece k t) : Shape t := by
  cases p with
  | word n _ h => exact .word n h
  | num h => exact .num h.1 h.2.2.1
  | rat h g _ => exact .rat h.1 h.2.2.1 g.1 g.2.2.1
  | sign h => exact .sign h
theorem Piece.len {k : Str} {t : List Nat} (p : Piece k t) : t.length ≤ 25 := by
  cases p with
  | word _ l _ => omega
  | num h => have := h.2.1; omega
  | rat h g _ =>
    have := h.2.1
    have := g.2.1
    rw [List.length_append, List.length_cons]
    omega
  | sign h =>
    simp only [SIGNS, List.mem_cons, List.not_mem_nil, or_false] at h
    rcases h with rfl | rfl | rfl | rfl | rfl | rfl | rfl | rfl | rfl | rfl | rfl | rfl <;> decide
end Cs
set_option maxHeartbeats 4000000
namespace Cs
open PySem PySem.Spec PyProof.Rows L2
/-! ### expressions written with few parentheses -/
def mmW : List Str := ["min", "max"]
def lvW (w : Str) : Nat := if w = "or" then 1 else if w = "and" then 2 else if w ∈ compW then 4 else if w = "add" ∨ w = "subtract" then 5 else if w = "multiply" then 6 else 7
def lvl : Ex → Nat
  | .leaf _ _ => 7
  | .una w _ _ => if w = "not" then 3 else 7
  | .bin w _ _ => lvW w
  | .tri _ _ _ => 0
def l1 (w : Str) : Nat := if w ∈ compW then 5 else lvW w
def l2 (w : Str) : Nat := if w ∈ compW then 5 else lvW w + 1
def opT (w : Str) : Str × List Nat :=
  if w = "add" then ("sign", [43]) else if w = "subtract" then ("sign", [45]) else if w = "multiply" then ("sign", [42]) else if w = "less" then ("sign", [60]) else if w = "atmost" then ("sign", [60, 61]) else if w = "equal" then ("sign", [61]) else if w = "and" then ("word", [97, 110, 100]) else ("word", [111, 114])
def numT (r : Rat) : List Nat := if r.den = 1 then TL.numL r.num.toNat else TL.numL r.num.toNat ++ 47 :: TL.numL r.den
def tl (z : Str) : List Nat := z.cps.toList
def frN : PyData → Rat
  | .tuple [.int p, .int q] => Rat.divInt p q
  | _ => 0
abbrev sq (n : Nat) (k : Str) (t : List Nat) : Seg := (n, k, t)
def leafS (w : Str) (h : List PyData) (n : Nat) : List Seg :=
  match h with
  | [] => [(sq n "word" (tl w))]
  | [.str z] => [(sq n "word" (tl w)), (sq 1 "word" (tl z))]
  | d :: _ => if w = "money" then [(sq n "sign" [36]), (sq 0 "number" (numT (frN d)))] else if w = "percent" then [(sq n "number" (numT (frN d))), (sq 1 "word" (tl "percent"))] else [(sq n "number" (numT (frN d)))]
def parS (p : Bool) (l : Nat → List Seg) (n : Nat) : List Seg := if p = true then (sq n "sign" [40]) :: (l 0 ++ [(sq 0 "sign" [41])]) else l n
def dayN : List PyData → Nat
  | [.int d] => d.toNat
  | _ => 0
def sg : Ex → Nat → List Seg
  | .leaf w h, n => leafS w h n
  | .una w h a, n => if w = "not" then (sq n "word" (tl w)) :: parS (decide (lvl a < 3)) (sg a) 1 else (sq n "word" (tl w)) :: (sq 1 "number" (TL.numL (dayN h))) :: parS true (sg a) 0
  | .bin w a b, n => if w ∈ mmW then (sq n "word" (tl w)) :: (sq 0 "sign" [40]) :: (sg a 0 ++ (sq 0 "sign" [44]) :: (sg b 0 ++ [(sq 0 "sign" [41])]))
    else parS (decide (lvl a < l1 w)) (sg a) n ++ (sq 1 (opT w).1 ((opT w).2)) :: parS (decide (lvl b < l2 w)) (sg b) 1
  | .tri a b c, n => (sq n "word" (tl "if")) :: (sg a 1 ++ (sq 1 "word" (tl "then")) :: (sg b 1 ++ (sq 1 "word" (tl "else")) :: sg c 1))
def ls (e : Ex) (L n : Nat) : List Seg := parS (decide (lvl e < L)) (sg e) n
end Cs
set_option maxHeartbeats 4000000
namespace Cs
open PySem PySem.Spec PyProof.Rows L2
/-! ### the tokens of what is written -/
abbrev Tx := Str × Str
abbrev tS (w : Str) : Tx := ("sign", w)
abbrev numX (r : Rat) : Tx := ("number", SX.S (numT r))
/-! ### how deep it is to read -/
def needs (L : Nat) (lv n : Nat) : Nat := if lv < L then n + 1 else n
def need : Ex → Nat
  | .leaf _ _ => 0
  | .una w _ a => if w = "not" then 1 + needs 3 (lvl a) (need a) else 1 + need a
  | .bin w a b => if w ∈ mmW then 1 + max (need a) (need b) else max (needs (l1 w) (lvl a) (need a)) (needs (l2 w) (lvl b) (need b))
  | .tri a b c => 1 + max (need a) (max (need b) (need c))
def dp (e : Ex) (L : Nat) : Nat := needs L (lvl e) (need e)
/-! ### the first token -/
def fst (l : List Tx) : Str := match l with
  | [] => ""
  | p :: _ => p.2
def FIRSTS : List Str := ["$", "fact", "rate", "true", "false", "not", "ever", "always", "before", "min", "max", "(", "if"]
inductive Hd (L : Nat) : List Tx → Prop
  | num (r : Rat) (h : NF r) (t : List Tx) : Hd L (numX r :: t)
  | wd (k w : Str) (h : w ∈ FIRSTS) (g : w = "if" → L = 0) (g2 : w = "not" → L ≤ 3) (t : List Tx) : Hd L ((k, w) :: t)
theorem Hd.app {L : Nat} {l r : List Tx} (h : Hd L l) : Hd L (l ++ r) := by
  cases h with
  | num r h t => exact .num r h _
  | wd k w h g g2 t => exact .wd k w h g g2 _
/-! ### what may follow -/
def S7 : List Str := ["percent"]
def S6 : List Str := "*" :: S7
def S5 : List Str := "+" :: "-" :: S6
def S3 : List Str := "<" :: "<=" :: "=" :: ">" :: ">=" :: S5
def S2 : List Str := "and" :: S3
def S1 : List Str := "or" :: S2
def stp : Nat → List Str
  | 7 => S7
  | 6 => S6
  | 5 => S5
  | 4 => S3
  | 3 => S3
  | 2 => S2
  | _ => S1
def Fol (L : Nat) (r : List Tx) : Prop := fst r ∉ stp L
theorem stp_up : ∀ L : _root_.Fin 7, ∀ z ∈ stp (L.val + 1), z ∈ stp L.val := by decide +kernel
theorem Fol.up {L : Nat} {r : List Tx} (h : Fol L r) (hL : L < 7) : Fol (L + 1) r := fun m => h (stp_up ⟨L, hL⟩ _ m)
theorem Fol.of {L : Nat} {r : List Tx} (h : Fol 0 r) : ∀ {L : Nat}, L ≤ 7 → Fol L r
  | 0, _ => h
  | L + 1, hL => (Fol.of (L := L) h (by omega)).up (by omega)
/-! ### the spine of a level -/
end Cs
set_option maxHeartbeats 4000000
set_option maxHeartbeats 4000000
namespace Cs
open PySem PySem.Spec PyProof.Rows L2
/-! ### dicts as cells, by tuples of keys -/
section
variable {α β γ δ : Type} {r q : V → α → Prop}
def lkT (ms : List (List Key × α)) (k : List Key) : Option α := (ms.find? fun m => decide (m.1 = k)).map (·.2)
def putT (ms : List (List Key × α)) (k : List Key) (x : α) : List (List Key × α) := if (ms.any fun m => decide (m.1 = k)) = true then ms.map (fun m => if m.1 = k then (m.1, x) else m) else ms ++ [(k, x)]
def DkT (r : V → α → Prop) : List (List Key × V) → List (List Key × α) → Prop
  | [], [] => True
  | p :: ps, m :: ms => p.1 = m.1 ∧ r p.2 m.2 ∧ DkT r ps ms
  | _, _ => False
theorem DkT.mono (e : ∀ v x, r v x → q v x) : ∀ {ps : List (List Key × V)} {ms : List (List Key × α)}, DkT r ps ms → DkT q ps ms
  | [], [], _ => trivial
  | _ :: _, _ :: _, ⟨a, b, c⟩ => ⟨a, e _ _ b, DkT.mono e c⟩
  | [], _ :: _, h => h.elim
  | _ :: _, [], h => h.elim
theorem DkT.length : ∀ {ps : List (List Key × V)} {ms : List (List Key × α)}, DkT r ps ms → ps.length = ms.length
  | [], [], _ => rfl
  | _ :: _, _ :: _, ⟨_, _, c⟩ => by simp [DkT.length c]
  | [], _ :: _, h => h.elim
  | _ :: _, [], h => h.elim
theorem DkT.keys : ∀ {ps : List (List Key × V)} {ms : List (List Key × α)}, DkT r ps ms → ps.map (·.1) = ms.map (·.1)
  | [], [], _ => rfl
  | _ :: _, _ :: _, ⟨a, _, c⟩ => by rw [List.map_cons, List.map_cons, a, DkT.keys c]
  | [], _ :: _, h => h.elim
  | _ :: _, [], h => h.elim
theorem DkT.app : ∀ {ps ps' : List (List Key × V)} {ms ms' : List (List Key × α)}, DkT r ps ms → DkT r ps' ms' → DkT r (ps ++ ps') (ms ++ ms')
  | [], _, [], _, _, h => h
  | _ :: _, _, _ :: _, _, ⟨a, b, c⟩, h => ⟨a, b, DkT.app c h⟩
  | [], _, _ :: _, _, h, _ => h.elim
  | _ :: _, _, [], _, h, _ => h.elim
theorem DkT.getV : ∀ {ps : List (List Key × V)} {ms : List (List Key × α)} {i : Nat} {p : List Key × V}, DkT r ps ms → ps[i]? = some p → ∃ m, ms[i]? = some m ∧ p.1 = m.1 ∧ r p.2 m.2
  | [], [], i, p, _, e => by simp at e
  | p0 :: ps, m0 :: ms, 0, p, ⟨a, b, c⟩, e => by
    obtain rfl : p0 = p := by simpa using e
    exact ⟨m0, rfl, a, b⟩
  | p0 :: ps, m0 :: ms, i + 1, p, ⟨a, b, c⟩, e => by
    rw [List.getElem?_cons_succ] at e ⊢
    exact DkT.getV c e
  | [], _ :: _, _, _, h, _ => h.elim
  | _ :: _, [], _, _, h, _ => h.elim
theorem DkT.any {k : List Key} {ps : List (List Key × V)} {ms : List (List Key × α)} (h : DkT r ps ms) : (ps.any fun p => decide (p.1 = k)) = ms.any fun m => decide (m.1 = k) := by
  have e : ∀ {β : Type} (l : List (List Key × β)), (l.any fun p => decide (p.1 = k)) = (l.map (·.1)).any fun c => decide (c = k) := fun l => by rw [List.any_map]; rfl
  rw [e, e, h.keys]
theorem DkT.repl {k : List Key} {v : V} {x : α} (hv : r v x) : ∀ {ps : List (List Key × V)} {ms : List (List Key × α)}, DkT r ps ms → DkT r (ps.map fun p => if p.1 = k then (p.1, v) else p) (ms.map fun m => if m.1 = k then (m.1, x) else m)
  | [], [], _ => trivial
  | p :: ps, m :: ms, ⟨a, b, c⟩ => by
    rw [List.map_cons, List.map_cons, a]
    by_cases e : m.1 = k
    · rw [if_pos e, if_pos e]; exact ⟨rfl, hv, DkT.repl hv c⟩
    · rw [if_neg e, if_neg e]; exact ⟨a, b, DkT.repl hv c⟩
  | [], _ :: _, h => h.elim
  | _ :: _, [], h => h.elim
theorem DkT.put {k : List Key} {v : V} {x : α} {ps : List (List Key × V)} {ms : List (List Key × α)} (h : DkT r ps ms) (hv : r v x) : DkT r (putK ps k v) (putT ms k x) := by
  unfold putK putT
  rw [h.any]
  split
  · exact h.repl hv
  · exact h.app ⟨rfl, hv, trivial⟩
theorem lkT_cons {m : List Key × α} {ms : List (List Key × α)} {k : List Key} : lkT (m :: ms) k = if m.1 = k then some m.2 else lkT ms k := by
  unfold lkT
  rw [List.find?_cons]
  by_cases e : m.1 = k
  · simp [e]
  · simp [e]
theorem DkT.val {k : List Key} : ∀ {ps : List (List Key × V)} {ms : List (List Key × α)}, DkT r ps ms → match lkT ms k with
    | none => valV ps k = none
    | some x => ∃ u, valV ps k = some u ∧ r u x
  | [], [], _ => rfl
  | p :: ps, m :: ms, ⟨a, b, c⟩ => by
    have ih := DkT.val (k := k) c
    rw [lkT_cons]
    by_cases e : m.1 = k
    · rw [if_pos e, valV_pos (a.trans e)]
      exact ⟨_, rfl, b⟩
    · rw [if_neg e, valV_neg (fun z => e (a.symm.trans z))]
      exact ih
  | [], _ :: _, h => h.elim
  | _ :: _, [], h => h.elim
theorem DkT.some {k : List Key} {ps : List (List Key × V)} {ms : List (List Key × α)} (h : DkT r ps ms) : (valV ps k).isSome = (lkT ms k).isSome := by
  have := h.val (k := k)
  cases e : lkT ms k with
  | none => rw [e] at this; rw [this]; rfl
  | some x =>
    rw [e] at this
    obtain ⟨u, h1, _⟩ := this
    rw [h1]; rfl
end
end Cs
set_option maxHeartbeats 4000000
namespace Cs
open PySem PySem.Spec PyProof.Rows L2
/-! ### the parts of an expression, numbered -/
def nkI : PyData → NK
  | .int i => .num i
  | .str z => .text z
  | .tuple [.int p, .int q] => .tup [.num p, .num q]
  | _ => .none
def rowK (e : Ex) (ns : List Nat) : NK := .tup (.text e.word :: (e.head.map nkI ++ ns.map fun (n : Nat) => NestedKey.num (n : Int)))
def lkS {α : Type} : List (Str × α) → Str → Option α
  | [], _ => none
  | m :: ms, z => if m.1 = z then some m.2 else lkS ms z
def outS {α : Type} (ms : List (Str × α)) (z : Str) : List (Str × α) := ms.filter fun m => decide (m.1 ≠ z)
structure PSt where
  rows : List NK
  roots : List (Str × Nat)
  unk : List Str
  frm : List (Str × Ex)
/-- the place of a row -/
def ixK (rows : List NK) (k : NK) : Option Nat := rows.findIdx? fun r => decide (r = k)
def addRow (s : PSt) (k : NK) : PSt × Nat := match ixK s.rows k with
  | some i => (s, i)
  | none => ({ s with rows := s.rows ++ [k] }, s.rows.length)
def isName : Ex → Option Str
  | .leaf w [.str z] => if w = "name" then some z else none
  | _ => none
def finN (s : PSt) (z : Str) : List Nat → PSt
  | n :: _ => { s with roots := s.roots ++ [(z, n)] }
  | [] => if (lkS s.roots z).isSome then s else { s with unk := s.unk ++ [z] }
def finS (s : PSt) (e : Ex) (ns : List Nat) : PSt × Nat := match isName e with
  | some z => addRow (finN s z ns) (rowK e [])
  | none => addRow s (rowK e ns)
def innS (s : PSt) (e : Ex) : PSt × List Ex := match isName e with
  | some z => match lkS s.frm z with
    | some f => ({ s with frm := outS s.frm z }, [f])
    | none => (s, [])
  | none => (s, e.parts)
structure Cfg where
  f : List Nat
  d : List (Ex × Option Nat)
  s : PSt
abbrev newD (es : List Ex) : List (Ex × Option Nat) := es.reverse.map fun a => (a, none)
inductive Stp : Cfg → Cfg → Prop
  | opn (f : List Nat) (d : List (Ex × Option Nat)) (e : Ex) (s : PSt) : Stp ⟨f, d ++ [(e, none)], s⟩ ⟨f, (d ++ [(e, some (innS s e).2.length)]) ++ newD (innS s e).2, (innS s e).1⟩
  | cls (f ns : List Nat) (d : List (Ex × Option Nat)) (e : Ex) (s : PSt) (g : ∀ z, isName e = some z → ns ≠ [] → lkS s.roots z = none) : Stp ⟨f ++ ns, d ++ [(e, some ns.length)], s⟩ ⟨f ++ [(finS s e ns).2], d, (finS s e ns).1⟩
inductive Rn : Nat → Cfg → Cfg → Prop
  | nil (c : Cfg) : Rn 0 c c
  | cons {k : Nat} {a b c : Cfg} (h : Stp a b) (r : Rn k b c) : Rn (k + 1) a c
theorem Rn.trans {k j : Nat} {a b c : Cfg} (h : Rn k a b) (g : Rn j b c) : Rn (k + j) a c := by
  induction h with
  | nil c => rw [Nat.zero_add]; exact g
  | @cons k a b c h r ih => rw [show k + 1 + j = (k + j) + 1 by omega]; exact .cons h (ih g)
/-! ### what the rows say -/
inductive Rep (ls : List (Str × Ex)) (rows : List NK) (roots : List (Str × Nat)) : Nat → Ex → Prop
  | name {n m : Nat} {z : Str} {f : Ex} (hr : rows[n]? = some (rowK (.leaf "name" [.str z]) [])) (hl : lkS ls z = some f) (ht : lkS roots z = some m) (h : Rep ls rows roots m f) : Rep ls rows roots n (.leaf "name" [.str z])
  | unk {n : Nat} {z : Str} (hr : rows[n]? = some (rowK (.leaf "name" [.str z]) [])) (hl : lkS ls z = none) (ht : lkS roots z = none) : Rep ls rows roots n (.leaf "name" [.str z])
  | leaf {n : Nat} {w : Str} {h : List PyData} (hn : isName (.leaf w h) = none) (hr : rows[n]? = some (rowK (.leaf w h) [])) : Rep ls rows roots n (.leaf w h)
  | una {n i : Nat} {w : Str} {h : List PyData} {a : Ex} (hr : rows[n]? = some (rowK (.una w h a) [i])) (ha : Rep ls rows roots i a) : Rep ls rows roots n (.una w h a)
  | bin {n i j : Nat} {w : Str} {a b : Ex} (hr : rows[n]? = some (rowK (.bin w a b) [i, j])) (ha : Rep ls rows roots i a) (hb : Rep ls rows roots j b) : Rep ls rows roots n (.bin w a b)
  | tri {n i j l : Nat} {a b c : Ex} (hr : rows[n]? = some (rowK (.tri a b c) [i, j, l])) (ha : Rep ls rows roots i a) (hb : Rep ls rows roots j b) (hc : Rep ls rows roots l c) : Rep ls rows roots n (.tri a b c)
theorem Rep.up {ls : List (Str × Ex)} {rows rows' : List NK} {roots roots' : List (Str × Nat)} (h1 : ∀ (n : Nat) k, rows[n]? = some k → rows'[n]? = some k) (h2 : ∀ z f n, lkS ls z = some f → lkS roots z = some n → lkS roots' z = some n) (h3 : ∀ z, lkS ls z = none → lkS roots' z = none) {n : Nat} {e : Ex} (h : Rep ls rows roots n e) : Rep ls rows' roots' n e := by
  induction h with
  | name hr hl ht _ ih => exact .name (h1 _ _ hr) hl (h2 _ _ _ hl ht) ih
  | unk hr hl ht => exact .unk (h1 _ _ hr) hl (h3 _ hl)
  | leaf hn hr => exact .leaf hn (h1 _ _ hr)
  | una hr _ ia => exact .una (h1 _ _ hr) ia
  | bin hr _ _ ia ib => exact .bin (h1 _ _ hr) ia ib
  | tri hr _ _ _ ia ib ic => exact .tri (h1 _ _ hr) ia ib ic
structure PExt (ls : List (Str × Ex)) (m : Nat) (s s' : PSt) : Prop where
  rows : ∃ t, s'.rows = s.rows ++ t
  roots : ∀ z n, lkS s.roots z = some n → lkS s'.roots z = some n
  hi : ∀ (j : Nat) (z : Str) (f : Ex), m ≤ j → ls[j]? = some (z, f) → lkS s'.frm z = lkS s.frm z ∧ lkS s'.roots z = lkS s.roots z
  un : ∀ z, lkS ls z = none → lkS s'.roots z = none
  frm : ∀ p ∈ s'.frm, p ∈ s.frm
theorem PExt.at {ls : List (Str × Ex)} {m : Nat} {s s' : PSt} (x : PExt ls m s s') : ∀ (n : Nat) k, s.rows[n]? = some k → s'.rows[n]? = some k := fun n k h => by
  obtain ⟨t, e⟩ := x.rows
  rw [e, List.getElem?_append_left (List.getElem?_eq_some_iff.mp h).1]
  exact h
theorem PExt.trans {ls : List (Str × Ex)} {m : Nat} {s s1 s2 : PSt} (x : PExt ls m s s1) (y : PExt ls m s1 s2) : PExt ls m s s2 := by
  obtain ⟨t, e⟩ := x.rows
  obtain ⟨u, f⟩ := y.rows
  exact ⟨⟨t ++ u, by rw [f, e, List.append_assoc]⟩, fun z n h => y.roots z n (x.roots z n h), fun j z g hj hz => ⟨(y.hi j z g hj hz).1.trans (x.hi j z g hj hz).1, (y.hi j z g hj hz).2.trans (x.hi j z g hj hz).2⟩, y.un, fun p h => x.frm p (y.frm p h)⟩
end Cs
set_option maxHeartbeats 4000000
set_option maxHeartbeats 4000000
namespace Cs
open PySem PySem.Spec PyProof.Rows L2
/-! ### the names that an expression asks for -/
inductive Hg (ls : List (Str × Ex)) : Nat → Ex → Prop
  | name {n : Nat} {z : Str} {f : Ex} (hl : lkS ls z = some f) (h : Hg ls n f) : Hg ls (n + 1) (.leaf "name" [.str z])
  | node {n : Nat} {e : Ex} (hn : isName e = none) (h : ∀ a ∈ e.parts, Hg ls n a) : Hg ls (n + 1) e
theorem Hg.up {ls : List (Str × Ex)} {n m : Nat} {e : Ex} (h : Hg ls n e) : n ≤ m → Hg ls m e := by
  induction h generalizing m with
  | name hl _ ih =>
    intro l
    cases m with
    | zero => omega
    | succ m => exact .name hl (ih (by omega))
  | node hn _ ih =>
    intro l
    cases m with
    | zero => omega
    | succ m => exact .node hn fun a ha => ih a ha (by omega)
theorem word_name {w : Str} (hw : w = "fact" ∨ w = "rate") : ("name" : Str) ≠ w := by
  rcases hw with rfl | rfl <;> decide +kernel
/-! ### texts in order -/
/-! ### drawn lets -/
structure LetsP (names : List Str) (L : List (Str × Ex)) (ks : List (Str × Str)) : Prop where
  fst : ks.map (·.1) = L.map (·.1)
  nd : (L.map (·.1)).Nodup
  sh : ∀ z ∈ L.map (·.1), z.length ≤ 11
  bl : ∀ (j : Nat) (z : Str) (f : Ex), L[j]? = some (z, f) → ∃ k, Bld names (ks.take j) k 2 f
  bk : ∀ (j : Nat) (z : Str) (f : Ex), L[j]? = some (z, f) → ∃ k, k ∈ kinds3 ∧ Bld names (ks.take j) k 2 f
theorem LetsP.nil {names : List Str} : LetsP names [] [] := ⟨rfl, List.Pairwise.nil, fun z m => (by cases m), fun j z f h => (by rw [List.getElem?_nil] at h; cases h), fun j z f h => (by rw [List.getElem?_nil] at h; cases h)⟩
theorem LetsP.up {names : List Str} {L : List (Str × Ex)} {ks : List (Str × Str)} (h : LetsP names L ks) {j : Nat} {z : Str} (m : z ∈ (ks.take j).map (·.1)) : ∃ i, i < j ∧ ∃ g, L[i]? = some (z, g) := by
  rw [List.map_take, h.fst] at m
  obtain ⟨i, hi⟩ := List.mem_iff_getElem?.mp m
  rw [List.getElem?_take] at hi
  split at hi
  · rename_i c
    rw [List.getElem?_map] at hi
    cases e : L[i]? with
    | none => rw [e] at hi; cases hi
    | some p =>
      rw [e] at hi
      have := Option.some.inj hi
      exact ⟨i, c, p.2, by rw [e, ← this]⟩
  · cases hi
/-! ### facts and rates -/
end Cs
set_option maxHeartbeats 4000000
namespace Cs
open PySem PySem.Spec PyProof.Rows L2
/-! ### the value of an expression on a day -/
inductive Vv
  | num (r : Rat)
  | tr (b : Bool)
def numV : Vv → Rat
  | .num r => r
  | .tr _ => 0
def boolV : Vv → Bool
  | .tr b => b
  | .num _ => false
structure His where
  facts : List (Str × List Rat)
  rates : List (Str × List Rat)
def hisV (h : His) (w z : Str) (d : Nat) : Rat := match lkS (if w = "fact" then h.facts else h.rates) z with
  | some l => l.getD d 0
  | none => 0
def ratD : List PyData → Rat
  | [.tuple [.int p, .int q]] => Rat.divInt p q
  | _ => 0
def plainV (h : His) (w : Str) (hd : List PyData) (d : Nat) : Vv := match hd with
  | [] => .tr (decide (w = "true"))
  | [.str z] => .num (hisV h w z d)
  | hd => .num (if w = "percent" then ratD hd / 100 else ratD hd)
def joinV (w : Str) (r s : Rat) : Vv :=
  if w = "add" then .num (r + s) else if w = "subtract" then .num (r - s) else if w = "multiply" then .num (r * s) else if w = "min" then .num (if cmpR r s ≤ 0 then r else s) else if w = "max" then .num (if 0 ≤ cmpR r s then r else s)
  else if w = "less" then .tr (decide (cmpR r s < 0)) else if w = "atmost" then .tr (decide (cmpR r s ≤ 0)) else .tr (decide (cmpR r s = 0))
/-- is there a day, from l on, n days, of which g holds -/
def anyN (g : Nat → Bool) : Nat → Nat → Bool
  | _, 0 => false
  | l, n + 1 => g l || anyN g (l + 1) n
def seekV (u : Bool) (g : Nat → Bool) (l d : Nat) : Bool := if anyN (fun k => g k != u) l (d + 1 - l) then !u else u
def spanD : List PyData → Nat
  | [.int s] => s.toNat
  | _ => 0
def timedV (w : Str) (s : Nat) (g : Nat → Vv) (d : Nat) : Vv :=
  if w = "before" then (if d < s then .tr false else g (d - s)) else .tr (seekV (decide (w = "always")) (fun k => boolV (g k)) (d + 1 - s) d)
def isLog (w : Str) : Bool := decide (w = "and") || decide (w = "or")
def valE (ls : List (Str × Ex)) (h : His) : Nat → Ex → Nat → Vv
  | 0, _, _ => .tr false
  | n + 1, .leaf w hd, d => match isName (.leaf w hd) with
    | some z => match lkS ls z with
      | some f => valE ls h n f d
      | none => .tr false
    | none => plainV h w hd d
  | n + 1, .una w hd a, d => if w = "not" then .tr (!boolV (valE ls h n a d)) else timedV w (spanD hd) (fun k => valE ls h n a k) d
  | n + 1, .bin w a b, d => if isLog w then (if boolV (valE ls h n a d) = decide (w = "or") then .tr (decide (w = "or")) else valE ls h n b d) else joinV w (numV (valE ls h n a d)) (numV (valE ls h n b d))
  | n + 1, .tri c a b, d => if boolV (valE ls h n c d) then valE ls h n a d else valE ls h n b d
/-- expressions that have a value on the days below D: truths or numbers, of how many bits -/
inductive Tyd (ls : List (Str × Ex)) (h : His) (D : Nat) : Nat → Bool → Nat → Ex → Prop
  | num {n : Nat} {w : Str} (hw : w ∈ numW) (r : Rat) (hr : NF r) : Tyd ls h D (n + 1) false 48 (.leaf w [frD r])
  | nam {n : Nat} {w z : Str} {l : List Rat} (hw : w = "fact" ∨ w = "rate") (hz : z.length ≤ 100) (hl : lkS (if w = "fact" then h.facts else h.rates) z = some l) (hd : D ≤ l.length) (hs : ∀ r ∈ l, Sz 48 r) : Tyd ls h D (n + 1) false 48 (.leaf w [.str z])
  | tru {n : Nat} {w : Str} (hw : w ∈ boolW) : Tyd ls h D (n + 1) true 0 (.leaf w [])
  | name {n s : Nat} {b : Bool} {z : Str} {f : Ex} (hz : z.length ≤ 100) (hl : lkS ls z = some f) (hf : Tyd ls h D n b s f) : Tyd ls h D (n + 1) b s (.leaf "name" [.str z])
  | nt {n s : Nat} {a : Ex} (ha : Tyd ls h D n true s a) : Tyd ls h D (n + 1) true 0 (.una "not" [] a)
  | tim {n s x : Nat} {w : Str} {a : Ex} (hw : w ∈ timedW) (h0 : 1 ≤ x) (h1 : x ≤ 1000) (ha : Tyd ls h D n true s a) : Tyd ls h D (n + 1) true 0 (.una w [.int (x : Int)] a)
  | cmp {n s t : Nat} {w : Str} {a b : Ex} (hw : w ∈ compW) (ha : Tyd ls h D n false s a) (hb : Tyd ls h D n false t b) (ls1 : s ≤ 4000) (ls2 : t ≤ 4000) : Tyd ls h D (n + 1) true 0 (.bin w a b)
  | log {n s t : Nat} {w : Str} {a b : Ex} (hw : isLog w = true) (ha : Tyd ls h D n true s a) (hb : Tyd ls h D n true t b) : Tyd ls h D (n + 1) true 0 (.bin w a b)
  | ari {n s t : Nat} {w : Str} {a b : Ex} (hw : w ∈ arithW ++ [("multiply" : Str)]) (ha : Tyd ls h D n false s a) (hb : Tyd ls h D n false t b) (ls1 : s ≤ 4000) (ls2 : t ≤ 4000) : Tyd ls h D (n + 1) false (s + t + 1) (.bin w a b)
  | ite {n s t u : Nat} {v : Bool} {c a b : Ex} (hc : Tyd ls h D n true u c) (ha : Tyd ls h D n v s a) (hb : Tyd ls h D n v t b) : Tyd ls h D (n + 1) v (max s t) (.tri c a b)
section
variable {ls : List (Str × Ex)} {h : His} {D : Nat}
theorem Tyd.up {n m s : Nat} {b : Bool} {e : Ex} (t : Tyd ls h D n b s e) : n ≤ m → Tyd ls h D m b s e ∧ ∀ d, valE ls h m e d = valE ls h n e d := by
  induction t generalizing m with
  | num hw r hr =>
    intro l
    obtain ⟨m, rfl⟩ : ∃ k, m = k + 1 := ⟨m - 1, by omega⟩
    exact ⟨.num hw r hr, fun d => rfl⟩
  | @nam n w z l hw hz hl hd hs =>
    intro q
    obtain ⟨m, rfl⟩ : ∃ k, m = k + 1 := ⟨m - 1, by omega⟩
    refine ⟨.nam hw hz hl hd hs, fun d => ?_⟩
    have hn : isName (.leaf w [.str z]) = none := if_neg (fun e => word_name hw e.symm)
    rw [valE, valE, hn]
  | tru hw =>
    intro l
    obtain ⟨m, rfl⟩ : ∃ k, m = k + 1 := ⟨m - 1, by omega⟩
    exact ⟨.tru hw, fun d => rfl⟩
  | @name n s b z f hz hl hf ih =>
    intro q
    obtain ⟨m, rfl⟩ : ∃ k, m = k + 1 := ⟨m - 1, by omega⟩
    obtain ⟨i1, i2⟩ := ih (m := m) (by omega)
    refine ⟨.name hz hl i1, fun d => ?_⟩
    rw [valE, valE, show isName (.leaf "name" [.str z]) = some z from rfl]
    dsimp only
    rw [hl]
    exact i2 d
  | nt _ ih =>
    intro q
    obtain ⟨m, rfl⟩ : ∃ k, m = k + 1 := ⟨m - 1, by omega⟩
    obtain ⟨i1, i2⟩ := ih (m := m) (by omega)
    exact ⟨.nt i1, fun d => by rw [valE, valE, if_pos rfl, if_pos rfl, i2]⟩
  | tim hw h0 h1 _ ih =>
    intro q
    obtain ⟨m, rfl⟩ : ∃ k, m = k + 1 := ⟨m - 1, by omega⟩
    obtain ⟨i1, i2⟩ := ih (m := m) (by omega)
    exact ⟨.tim hw h0 h1 i1, fun d => by rw [valE, valE, i2, show (fun k => valE ls h m _ k) = _ from funext i2]⟩
  | cmp hw _ _ l1 l2 ia ib =>
    intro q
    obtain ⟨m, rfl⟩ : ∃ k, m = k + 1 := ⟨m - 1, by omega⟩
    obtain ⟨i1, i2⟩ := ia (m := m) (by omega)
    obtain ⟨j1, j2⟩ := ib (m := m) (by omega)
    exact ⟨.cmp hw i1 j1 l1 l2, fun d => by rw [valE, valE, i2, j2]⟩
  | log hw _ _ ia ib =>
    intro q
    obtain ⟨m, rfl⟩ : ∃ k, m = k + 1 := ⟨m - 1, by omega⟩
    obtain ⟨i1, i2⟩ := ia (m := m) (by omega)
    obtain ⟨j1, j2⟩ := ib (m := m) (by omega)
    exact ⟨.log hw i1 j1, fun d => by rw [valE, valE, i2, j2]⟩
  | ari hw _ _ l1 l2 ia ib =>
    intro q
    obtain ⟨m, rfl⟩ : ∃ k, m = k + 1 := ⟨m - 1, by omega⟩
    obtain ⟨i1, i2⟩ := ia (m := m) (by omega)
    obtain ⟨j1, j2⟩ := ib (m := m) (by omega)
    exact ⟨.ari hw i1 j1 l1 l2, fun d => by rw [valE, valE, i2, j2]⟩
  | ite _ _ _ ic ia ib =>
    intro q
    obtain ⟨m, rfl⟩ : ∃ k, m = k + 1 := ⟨m - 1, by omega⟩
    obtain ⟨k1, k2⟩ := ic (m := m) (by omega)
    obtain ⟨i1, i2⟩ := ia (m := m) (by omega)
    obtain ⟨j1, j2⟩ := ib (m := m) (by omega)
    exact ⟨.ite k1 i1 j1, fun d => by rw [valE, valE, k2, i2, j2]⟩
/-! ### what kind of value -/
def VOk (b : Bool) (s : Nat) : Vv → Prop
  | .tr _ => b = true
  | .num r => b = false ∧ Sz s r
theorem VOk.tr {s : Nat} {v : Vv} (x : VOk true s v) : v = .tr (boolV v) := by
  cases v with
  | tr b => rfl
  | num r => cases x.1
end
end Cs
set_option maxHeartbeats 4000000
set_option maxHeartbeats 4000000
namespace Cs
open PySem PySem.Spec PyProof.Rows L2
/-! ### watches: dicts by numbers that are walked and made, any and all of a list, tuples of parts taken apart -/
section
variable {α β γ : Type} {W : Wd} {K : PySem.W.Frag} {ta tb tc td te tk tv : TE} {t : Ty α} {u : Ty β} {x : α} {y : β} {tt : TT} {ts us : TS} {D : Ends} {wi : TI} {g : TG} {as : α → List (Nat × SF)}
theorem iv_enum {xs : List α} (h : Ev W ta (tLs K t) xs) : Iv W (iEnum K (tCons ta tNil)) (tPr K tInt t) (xs.zipIdx.map fun p => ((p.2 : Int), p.1)) := fun σ H o R q =>
  h σ H o _ fun v H1 g1 ⟨p, vs, e, s, al⟩ => by
    obtain rfl : v = .ref p := e
    refine ⟨p, vs, rfl, SqL.of (hid_sub _ _ s), q _ _ (ffL K t p vs xs) g1 ⟨SqL.of s, al⟩ ⟨YPair (fun i => some (.int (i : Nat))) (fun i => vs[i]?), ?_, fun i H v H' S hi z al' ⟨T, a, b, e1, nT, e2, ea, eb⟩ => ?_⟩⟩
    · rw [List.length_map, List.length_zipIdx, ← al.length]
      exact walk_enum.mono (fun H ⟨S, z⟩ => hid_sub.seq z.1) fun i H v H' _ _ h => h
    · subst e1 e2
      obtain ⟨x, x1, x2⟩ := z.2.getV eb
      obtain rfl := Option.some.inj ea
      have sm : Same H (upd H T (.tup [V.int (i : Nat), b])) := Same.new nT
      have nS : T ∉ S := fun m => al' T m nT
      refine ⟨sm, ((i : Int), x), ?_, T, _, b, rfl, SqT.of (by rw [hid_of nS]; exact upd_same), rfl, t.mono (hid_same sm) x2⟩
      rw [List.getElem?_map, List.getElem?_zipIdx, x1]; simp
/-! ### a comprehension whose element makes things and changes them -/
/-! ### written dicts as values; dict(d), d.clear() -/
end
end Cs
set_option maxHeartbeats 4000000
namespace Cs
open PySem PySem.Spec PyProof.Rows L2
/-! ### lcm; reversed(range(n)); [x] * n; x not in a list of ints; triples -/
def rLcmS : List V → Hp → VK → Prop := fun vs H Q => ∃ a b : Int, vs = [.int a, .int b] ∧ a.natAbs < 2 ^ 64 ∧ b.natAbs < 2 ^ 64 ∧ Q (.int ((Nat.lcm a.natAbs b.natAbs : Nat) : Int)) H
theorem cr_lcmS {X : Cx} : CallR X (.builtin "math.lcm") rLcmS := by
  intro pins s σ H vs us Q I r h
  obtain ⟨a, b, rfl, ha, hb, q⟩ := h
  obtain ⟨t, u, rfl⟩ := Vals.int2 r
  exact PySem.W.mc_lcm ha hb fun _ => ⟨.int _, H, I.tok _, ⟨_, rfl⟩, q⟩
section
variable {α β γ δ : Type} {W : Wd} {K : PySem.W.Frag} {ta tb tc : TE} {t : Ty α} {u : Ty β} {v : Ty γ} {x : α} {y : β} {i j : Int} {us ts : TS} {D : Ends} {m n l : Nat}
theorem ev_lcmS (ha : Ev W ta tInt i) (hb : Ev W tb tInt j) (h1 : i.natAbs < 2 ^ 64) (h2 : j.natAbs < 2 ^ 64) : Ev W (tCB rLcmS (tCons ta (tCons tb tNil))) tInt ((Nat.lcm i.natAbs j.natAbs : Nat) : Int) := fun σ H o Q q =>
  ha σ H o _ fun v H1 g1 r1 => hb σ H1 g1.ok _ fun v2 H2 g2 r2 => ⟨i, j, by rw [show v = .int i from r1, show v2 = .int j from r2], h1, h2, q _ H2 (g1.trans g2) rfl⟩
theorem iv_revRange {n : Nat} (h : Ev W ta tInt (n : Int)) (h2 : n < 2 ^ 60) : Iv W (iRevR (tRg1 ta)) tInt ((List.range n).reverse.map fun (i : Nat) => (i : Int)) := fun σ H o R q => h σ H o _ fun v H1 g1 r => by
  refine ⟨n, r, by omega, by omega, by omega, by omega, q _ _ ffT g1 trivial ⟨YFn fun (i : Nat) => .int ((0 : Int) + ((((n : Int) - 0).toNat : Nat) : Int) - 1 + (i : Int) * (-1)), ?_, ?_⟩⟩
  · have e : ((List.range n).reverse.map fun (i : Nat) => (i : Int)).length = ((n : Int) - 0).toNat := by rw [List.length_map, List.length_reverse, List.length_range]; omega
    rw [e]
    exact walk_rangeC.mono (fun _ _ => trivial) fun i H v H' _ _ h => h
  · rintro i H v H' S hi z _ ⟨e1, e2⟩
    subst e1 e2
    rw [List.length_map, List.length_reverse, List.length_range] at hi
    refine ⟨Same.refl _, ((n - 1 - i : Nat) : Int), ?_, ?_⟩
    · rw [List.getElem?_map, List.getElem?_reverse (by rw [List.length_range]; exact hi), List.length_range, List.getElem?_range (by omega)]; rfl
    · show V.int _ = V.int _
      congr 1
      omega
theorem ev_repS {k : Int} (hx : Ev W (tLst (tCons ta tNil)) (tLs K t) [x]) (hb : Ev W tb tInt k) (h0 : -(2 ^ 63) ≤ k) (h1 : k < 2 ^ 63) (h2 : k.toNat ≤ sizeLine) : Ev W (tOp rRep (tLst (tCons ta tNil)) tb) (tLs K t) (List.replicate k.toNat x) := fun σ H o Q q =>
  hx σ H o _ fun w H1 g1 r1 => hb σ H1 g1.ok _ fun w2 H2 g2 r2 => by
    obtain ⟨p, vs, rfl, s, al⟩ := (tLs K t).mono g2.up r1
    match vs, al, s with
    | [z], ⟨rz, _⟩, s =>
      refine ⟨p, k, [z], rfl, r2, hid_sub _ _ s, h0, h1, by rw [List.length_singleton, Nat.one_mul]; exact h2, fun l nl => q _ _ ((g1.trans g2).trans (g2.ok.new nl)) ⟨l, List.replicate k.toNat z, rfl, ?_, ?_⟩⟩
      · rw [hid_of (g2.ok.off nl)]
        refine upd_same.trans ?_
        have : (List.replicate k.toNat [z]).flatten = List.replicate k.toNat z := by
          induction k.toNat with
          | zero => rfl
          | succ n ih => rw [List.replicate_succ, List.flatten_cons, ih]; rfl
        rw [this]
      · have rz := t.mono (g2.ok.new (o := .lst (List.replicate k.toNat [z]).flatten) nl).up rz
        generalize hid W.S _ = HH at rz
        clear h2
        induction k.toNat with
        | zero => exact trivial
        | succ n ih => exact ⟨rz, ih⟩
    | [], al, _ => exact al.elim
    | _ :: _ :: _, ⟨_, al⟩, _ => exact al.elim
theorem ev_niI {xs : List Int} (ha : Ev W ta tInt i) (hb : Ev W tb (tLs K tInt) xs) : Ev W (tOp (rIn K true) ta tb) tBl (!decide (i ∈ xs)) := fun σ H o Q q =>
  ha σ H o _ fun v H1 g1 r1 => hb σ H1 g1.ok _ fun v2 H2 g2 ⟨p, vs, e, s, al⟩ => ⟨p, vs, e, .inl ((SqL.of (hid_sub _ _ s))), by rw [show v = .int i from r1]; rfl, by rw [All2.toMap V.int (fun v x e => e) al]; simp [List.all_map, flatV], q _ H2 (g1.trans g2) (by rw [show v = .int i from r1]; show V.bl (!inV (.int i) vs) = _; rw [All2.toMap V.int (fun v x e => e) al, inV_int rfl])⟩
def tP3 (K : PySem.W.Frag) (t : Ty α) (u : Ty β) (v : Ty γ) : Ty (α × β × γ) := tTp K _ (fun x => [t.is x.1, u.is x.2.1, v.is x.2.2])
theorem ev_p3 {z : γ} (ha : Ev W ta t x) (hb : Ev W tb u y) (hc : Ev W tc v z) : Ev W (tTup (tCons ta (tCons tb (tCons tc tNil)))) (tP3 K t u v) (x, y, z) :=
  ev_tup (K := K) (x := (x, y, z)) (fs' := fun x : α × β × γ => [t.is x.1, u.is x.2.1, v.is x.2.2]) (ea_cons ha (ea_cons hb (ea_cons hc ea_nil))) rfl (by show 3 ≤ sizeLine; decide)
theorem go_unP3 {z : α × β × γ} (h : Ev W ta (tP3 K t u v) z) (k : Go (((W.at m (t.is z.1)).at n (u.is z.2.1)).at l (v.is z.2.2)) us D) : Go W (tSeq (tAsg ta (gTup K 3 (gCons (gName m) (gCons (gName n) (gCons (gName l) gNil))))) us) D := fun σ H o => h σ H o _ fun w H1 g1 ⟨p, vs, e, s, f⟩ => by
  match vs, f with
  | [a, b, c], ⟨h1, h2, h3, _⟩ =>
    exact ⟨p, _, e, sqT_mono hid_sub s, rfl, _, _, rfl, _, _, rfl, _, _, rfl, rfl, k _ _ (((g1.ok.put (i := m) (f := t.is z.1) h1).put (i := n) (f := u.is z.2.1) h2).put (i := l) (f := v.is z.2.2) h3)⟩
theorem go_contS {W' : Wd} (h : ∀ σ H, Ok W σ H → D.ct σ H) : Go W tCont D := fun σ H o => h σ H o
theorem ev_someI {te : TE} {i : Int} (h : Ev W te tInt i) : Ev W te (tOpt tInt) (some i) := ev_to h fun H v r => ⟨r, by rw [show v = .int i from r]; simp⟩
end
theorem iv_rangeB {W : Wd} {ta tb : TE} {i j : Int} (ha : Ev W ta tInt i) (hb : Ev W tb tInt j) (h1 : -(2 ^ 62) ≤ i) (h2 : i < 2 ^ 62) (h3 : -(2 ^ 62) ≤ j) (h4 : j < 2 ^ 62) : Iv W (iRng2 (tCons ta (tCons tb tNil))) tInt ((List.range (j - i).toNat).map fun (k : Nat) => i + (k : Int)) := fun σ H o R q => ha σ H o _ fun v H1 g1 r => hb σ H1 g1.ok _ fun v2 H2 g2 r2 =>
  ⟨i, j, by rw [show v = .int i from r, show v2 = .int j from r2], ⟨h1, h2, h3, h4⟩, q _ _ ffT (g1.trans g2) trivial ⟨YFn fun (k : Nat) => .int (i + (k : Int)), by
    rw [List.length_map, List.length_range]
    exact walk_range.mono (fun _ _ => trivial) fun i H v H' _ _ h => h, fun k H v H' S hi z _ ⟨e1, e2⟩ => by
    subst e1 e2
    rw [List.length_map, List.length_range] at hi
    exact ⟨Same.refl _, i + (k : Int), by rw [List.getElem?_map, List.getElem?_range hi]; rfl, rfl⟩⟩⟩
theorem pa_starK {X : Cx} {K : PySem.W.Frag} {e : Expr} {es : List Expr} {te : TE} {t : TA} {p : Pos} (hK : X.K = K) (he : PE X e te) (hr : PA X es t) (hs : starEach (.Starred e p :: es) X.env = (true, eval e X.env) :: starEach es X.env := by rfl) : PA X (.Starred e p :: es) (StX.tStar K te t) := hK ▸ StX.pa_star he hr hs
theorem pi_listK {X : Cx} {K : PySem.W.Frag} {tg e : Expr} {te : TE} (hK : X.K = K) (he : PE X e te) : PI X tg e (iList K te) := hK ▸ pi_list he
section
variable {α β γ δ : Type} {W : Wd} {K : PySem.W.Frag} {ta tb tc te : TE} {t : Ty α} {x : α} {us ts : TS} {D : Ends} {i : Nat} {ar : TA} {E : XK}
theorem cap3 {G : List (Option SF)} {n n2 n3 : Str} {k k2 k3 : Nat} {f f2 f3 : SF} (h : G[k]? = some (some f)) (h2 : G[k2]? = some (some f2)) (h3 : G[k3]? = some (some f3)) : CapOk G [(n, k), (n2, k2), (n3, k3)] [some f, some f2, some f3] := ⟨rfl, fun j g q => by
  match j, q with
  | 0, q => exact ⟨_, rfl, by simp at q; rw [← q]; exact h⟩
  | 1, q => exact ⟨_, rfl, by simp at q; rw [← q]; exact h2⟩
  | 2, q => exact ⟨_, rfl, by simp at q; rw [← q]; exact h3⟩
  | n + 3, q => simp at q⟩
/-- x = [e] * n, changed later -/
theorem go_newR {k : Int} (hx : Ev W (tLst (tCons ta tNil)) (tLs K t) [x]) (hb : Ev W tb tInt k) (h0 : -(2 ^ 63) ≤ k) (h1 : k < 2 ^ 63) (h2 : k.toNat ≤ sizeLine) (g : ∀ p, p ∉ W.S → Go ⟨W.H0, W.M, p :: W.S, cell p (cLs t (List.replicate k.toNat x)) :: W.L, W.F, W.G.set i (some (tRf.is p))⟩ us D) : Go W (tSeq (tAsg (tOp rRep (tLst (tCons ta tNil)) tb) (gName i)) us) D := fun σ H o => by
    show tLst (tCons ta tNil) σ H fun v H1 => tb σ H1 fun w H2 => rRep v w H2 fun y H3 => gName i y σ H3 fun σ2 H4 => us D σ2 H4
    refine hx σ H o _ fun w H1 g1 r1 => hb σ H1 g1.ok _ fun w2 H2 g2 r2 => ?_
    obtain ⟨p, vs, rfl, s, al⟩ := (tLs K t).mono g2.up r1
    match vs, al, s with
    | [z], ⟨rz, _⟩, s =>
      refine ⟨p, k, [z], rfl, r2, hid_sub _ _ s, h0, h1, by rw [List.length_singleton, Nat.one_mul]; exact h2, fun l nl => g l (g2.ok.off nl) _ _ (Ok.put (i := i) (f := tRf.is l) (g2.ok.cell (ψ := cLs t (List.replicate k.toNat x)) nl ⟨List.replicate k.toNat z, ?_, ?_⟩).1 rfl)⟩
      · have : (List.replicate k.toNat [z]).flatten = List.replicate k.toNat z := by
          induction k.toNat with
          | zero => rfl
          | succ n ih => rw [List.replicate_succ, List.flatten_cons, ih]; rfl
        rw [this]
      · clear h2
        induction k.toNat with
        | zero => exact trivial
        | succ n ih => exact ⟨rz, ih⟩
    | [], al, _ => exact al.elim
    | _ :: _ :: _, ⟨_, al⟩, _ => exact al.elim
/-- a def that answers with a new list -/
def spNw (A : γ → List SF) (t : Ty α) (pre : γ → Prop) (g : γ → List α) : Sp := fun vs H Q _ => ∃ (S : List Addr) (x : γ), (∀ a ∈ S, H a ≠ none) ∧ Fits (hid S H) (A x) vs ∧ pre x ∧ ∀ p ws H', Same H H' → H p = none → H' p = some (.lst ws) → All2 (t.r (hid (p :: S) H')) ws (g x) → Q (.ref p) H'
theorem ev_nw {A : γ → List SF} {pre : γ → Prop} {g : γ → List α} {z : γ} (h : Ea W ar (A z)) (hp : pre z) : Ev W (tCall (spNw A t pre g) [] E ar) (tLs K t) (g z) := fun σ H o Q q => h σ H o _ fun vs H1 g1 r1 =>
  ⟨W.S, z, g1.ok.al, by rw [List.append_nil]; exact r1, hp, fun p ws H' sm np hq al => q _ _ (g1.trans (g1.ok.go sm)) ⟨p, ws, rfl, by rw [hid_of (g1.ok.off np)]; exact hq, All2.mono (fun _ _ => t.mono (hid_less fun a m => List.mem_cons_of_mem _ m)) al⟩⟩
theorem go_nw {A : γ → List SF} {pre : γ → Prop} {g : γ → List α} (z : γ) (h : Ea W ar (A z)) (hp : pre z) (k : ∀ p, p ∉ W.S → Go ⟨W.H0, W.M, p :: W.S, cell p (cLs t (g z)) :: W.L, W.F, W.G.set i (some (tRf.is p))⟩ us D) : Go W (tSeq (tAsg (tCall (spNw A t pre g) [] E ar) (gName i)) us) D := fun σ H o => h σ H o _ fun vs H1 g1 r1 =>
  ⟨W.S, z, g1.ok.al, by rw [List.append_nil]; exact r1, hp, fun p ws H' sm np hq al => by
    have o1 := g1.ok
    have np' := o1.off np
    have e2 : Bt (fps ([] : List RS)) H1 H' := Bt.of sm
    obtain ⟨o2, _⟩ := o1.change1 (C := []) (C' := [cell p (cLs t (g z))]) (R := W.L) (N := [p]) (H' := H') rfl e2 (fun a m => by rw [List.mem_singleton.mp m]; exact ⟨np, by rw [hq]; simp⟩) (by show [p].Nodup; simp) (fun a m => .inr m) (fun a m => nomatch m) (fun r m => by
      rw [List.mem_singleton.mp m]
      exact ⟨_, hq, ws, rfl, al⟩)
    exact k p np' _ _ (Ok.put (i := i) (f := tRf.is p) o2 rfl)⟩
/-- the new list is told -/
theorem go_endNw {p : Addr} {xs : List α} {S : List Addr} {L : List RS} {H0 : Hp} {F : List FF} {G : List (Option SF)} {Q : VK} (hp : G[i]? = some (some (tRf.is p))) (hD : D.rt = Q) (out : ∀ p ws H', Same H0 H' → H0 p = none → H' p = some (.lst ws) → All2 (t.r (hid (p :: S) H')) ws xs → Q (.ref p) H') : Go ⟨H0, [], p :: S, cell p (cLs t xs) :: L, F, G⟩ (tRet (tVar i)) D := fun σ H o => by
  obtain ⟨v, h1, h2⟩ := o.slots i _ hp
  obtain rfl : v = .ref p := h2
  obtain ⟨ob, hob, ws, rfl, al⟩ := o.at_ _ (List.mem_cons_self ..)
  have fr := (o.own p (mem_fps (List.mem_cons_self ..) (List.mem_cons_self ..))).2
  refine ⟨.ref p, h1, ?_⟩
  rw [hD]
  refine out p ws H (fun a u h => o.bt a u (fun m => nomatch m) h) ?_ hob al
  rcases fr with m | m
  · cases m
  · exact m
theorem ok_Nw {P : Program} {w : World} {mg : Str → Option Value} {base : Heap} {nm qual : Str} {st : Stmt} {f : Addr} {fd : FuncData} {N ps : List Str} {k : Nat} {A : γ → List SF} {pre : γ → Prop} {g : γ → List α}
    (F : Fun K nm qual st f fd) (S : FnScope N ps (defScope st)) (hl : ∀ x, (A x).length = ps.length)
    (body : ∀ (cdv : Value) (A' : Around) (outer : List Env) (s : Shared) (H0 : Hp) (S : List Addr) (x : γ) (Q : VK) (E : XK), Room k (A'.deeper (envOfC qual (defScope st) s.heap.objs.size f cdv)) → pre x → (∀ p ws H', Same H0 H' → H0 p = none → H' p = some (.lst ws) → All2 (t.r (hid (p :: S) H')) ws (g x) → Q (.ref p) H') →
      ∃ t, PSs (cxOf CX0 P w K mg base N qual (defScope st) f cdv A' outer s H0 E).nox (defBody st) t ∧ Go ⟨H0, [], S, [], [], (A x).map some ++ List.replicate (N.length - ps.length) none⟩ t { nx := fun _ H' => Q .non H', rt := Q }) :
    FnOk P w K mg base CX0 (k + 1) f fd ps (spNw A t pre g) := by
  refine F.ok S (fun vs H Q E h => ?_) (fun cdv A' outer s H vs Q E hr h => ?_)
  · obtain ⟨S', x, _, ft, _⟩ := h
    rw [ft.length, hl]
  · obtain ⟨S', x, al, ft, hp, out⟩ := h
    obtain ⟨t, h1, h2⟩ := body cdv A' outer s H S' x Q E hr hp out
    exact ⟨t, h1, h2 _ _ (start_ok (C := []) al (by simp [fps]) (fun a m => nomatch m) (fun r m => nomatch m) ft (hl x))⟩
theorem ok_NCm {P : Program} {w : World} {mg : Str → Option Value} {base : Heap} {δ : Type} {nm qual : Str} {st : Stmt} {f c : Addr} {fd : FuncData} {N ps : List Str} {k : Nat} {C : γ → List RS} {A : γ → List SF} {wt : Ty δ} {pre : γ → Prop} {post : γ → δ → Prop}
    (F : Fun K nm qual st f fd) (hc : fd.code = .ref c) (S : FnScope N ps (defScope st)) (hl : ∀ x, (A x).length = ps.length)
    (body : ∀ (A' : Around) (outer : List Env) (s : Shared) (H0 : Hp) (S : List Addr) (x : γ) (Q : VK) (E : XK), Room k (A'.deeper (envOfC qual (defScope st) s.heap.objs.size f (.ref c))) → pre x → Rt (C x) S H0 wt (post x) Q → (∀ a ∈ fps (C x), a ∈ S) →
      ∃ t, PSs (cxOf CX0 P w K mg base N qual (defScope st) f (.ref c) A' outer s H0 E).nox (defBody st) t ∧ Go ⟨H0, fps (C x), S, C x, [], (A x).map some ++ List.replicate (N.length - ps.length) none⟩ t { nx := fun _ H' => Q .non H', rt := Q }) :
    FnOk P w K mg base CX0 (k + 1) f fd ps (spN C A wt pre post) := by
  refine fun_okC F hc S (fun vs H Q E h => ?_) (fun A' outer s H vs Q E hr h => ?_)
  · obtain ⟨S', x, _, _, _, _, ft, _⟩ := h
    rw [ft.length, hl]
  · obtain ⟨S', x, al, nd, sub, cc, ft, hp, out⟩ := h
    obtain ⟨t, h1, h2⟩ := body A' outer s H S' x Q E hr hp (fun v y H' => out v y H') sub
    exact ⟨t, h1.nox, h2 _ _ (start_ok al nd sub cc ft (hl x))⟩
theorem ok_Nm {P : Program} {w : World} {mg : Str → Option Value} {base : Heap} {δ : Type} {nm qual : Str} {st : Stmt} {f : Addr} {fd : FuncData} {N ps : List Str} {k : Nat} {C : γ → List RS} {A : γ → List SF} {wt : Ty δ} {pre : γ → Prop} {post : γ → δ → Prop}
    (F : Fun K nm qual st f fd) (S : FnScope N ps (defScope st)) (hl : ∀ x, (A x).length = ps.length)
    (body : ∀ (cdv : Value) (A' : Around) (outer : List Env) (s : Shared) (H0 : Hp) (S : List Addr) (x : γ) (Q : VK) (E : XK), Room k (A'.deeper (envOfC qual (defScope st) s.heap.objs.size f cdv)) → pre x → Rt (C x) S H0 wt (post x) Q → (∀ a ∈ fps (C x), a ∈ S) →
      ∃ t, PSs (cxOf CX0 P w K mg base N qual (defScope st) f cdv A' outer s H0 E).nox (defBody st) t ∧ Go ⟨H0, fps (C x), S, C x, [], (A x).map some ++ List.replicate (N.length - ps.length) none⟩ t { nx := fun _ H' => Q .non H', rt := Q }) :
    FnOk P w K mg base CX0 (k + 1) f fd ps (spN C A wt pre post) := by
  refine F.ok S (fun vs H Q E h => ?_) (fun cdv A' outer s H vs Q E hr h => ?_)
  · obtain ⟨S', x, _, _, _, _, ft, _⟩ := h
    rw [ft.length, hl]
  · obtain ⟨S', x, al, nd, sub, cc, ft, hp, out⟩ := h
    obtain ⟨t, h1, h2⟩ := body cdv A' outer s H S' x Q E hr hp (fun v y H' => out v y H') sub
    exact ⟨t, h1, h2 _ _ (start_ok al nd sub cc ft (hl x))⟩
theorem et_isNV {x : Option α} (h : Ev W ta (tOpt t) x) : Ev W (tOp (fun x y H Q => y = .non ∧ Q (.bl (decide (x = .non))) H) ta (tC .non)) tBl x.isNone := fun σ H o Q q => by
  refine h σ H o _ fun v H1 g1 r1 => ⟨rfl, q _ H1 g1 ?_⟩
  have : decide (v = .non) = x.isNone := by
    cases x with
    | none => rw [show v = .non from r1]; rfl
    | some y => exact decide_eq_false r1.2
  show V.bl _ = V.bl _
  rw [this]
theorem et_nnS {x : Option α} (h : Ev W ta (tOpt t) x) : Et W (tTest (tOp (fun x y H Q => y = .non ∧ Q (.bl (!decide (x = .non))) H) ta (tC .non))) (!x.isNone) := fun σ H o Q q => by
  refine h σ H o _ fun v H1 g1 r1 => ⟨rfl, _, ?_, q H1 g1⟩
  have : decide (v = .non) = x.isNone := by
    cases x with
    | none => rw [show v = .non from r1]; rfl
    | some y => exact decide_eq_false r1.2
  rw [this]
end
end Cs
set_option maxHeartbeats 4000000
namespace Cs
/-! ### rows without denominators; what an echelon asks for -/
def lcmR (row : List Rat) : Nat := row.foldl (fun c r => Nat.lcm c r.den) 1
def whR (row : List Rat) : IR := row.map fun r => r.num * Int.fdiv (lcmR row : Int) (r.den : Int)
theorem lcm_snoc (row : List Rat) (r : Rat) : lcmR (row ++ [r]) = Nat.lcm (lcmR row) r.den := by unfold lcmR; rw [List.foldl_append]; rfl
/-- a row whose denominators are short -/
structure WhOk (row : List Rat) : Prop where
  len : row.length ≤ 10
  den : ∀ r ∈ row, r.den < 2 ^ 64
  cum : ∀ k, k ≤ row.length → lcmR (row.take k) < 2 ^ 64
  num : ∀ r ∈ row, r.num.natAbs < 2 ^ 2000
theorem whR_len (row : List Rat) : (whR row).length = row.length := List.length_map ..
abbrev pvI (pv : List Nat) : List Int := pv.map fun (n : Nat) => (n : Int)
structure EchAt (w : Nat) (s : Sy) : Prop where
  len : s.rs.length ≤ 10
  fln : s.fd.length ≤ 10
  row : ∀ r ∈ s.rs, r.length = w ∧ ∀ j, (gI r j).natAbs < 2 ^ 2000
  d0 : s.dv ≠ 0
  dn : s.dv.natAbs < 2 ^ 2000
  pl : s.pv.length = s.fd.length
structure EchOk (t : List IR) (n w : Nat) : Prop where
  nw : n ≤ w
  w10 : w ≤ 10
  at_ : ∀ k, k ≤ n → EchAt w (ech t k)
theorem ech_succ (t : List IR) (k : Nat) : ech t (k + 1) = echS (ech t k) k := by unfold ech; rw [List.range_succ, List.foldl_append]; rfl
def sprD (vals : List Rat) (pv : List Nat) (n : Nat) : List Rat := (vals.zip pv).foldl (fun a p => a.set p.2 p.1) (List.replicate n 0)
theorem fold_len {l : List (Rat × Nat)} : ∀ {a : List Rat}, (l.foldl (fun a p => a.set p.2 p.1) a).length = a.length := by
  induction l with
  | nil => intro a; rfl
  | cons p l ih => intro a; rw [List.foldl_cons, ih, List.length_set]
theorem sprD_len (vals : List Rat) (pv : List Nat) (n : Nat) : (sprD vals pv n).length = n := by unfold sprD; rw [fold_len, List.length_replicate]
/-! ### the factors of a column, as fractions -/
def lstG (fd : List IR) (pv : List Nat) : Int := gI (fd.getD (fd.length - 1) []) (pv.getD (pv.length - 1) 0)
def endN (fd : List IR) (pv : List Nat) (col : Nat) : List Int := nmb (lstG fd pv) col (fd.zip pv)
def endR (fd : List IR) (pv : List Nat) (col : Nat) : List Rat := if fd = [] then [] else (endN fd pv col).map fun z => Rat.divInt z (lstG fd pv)
theorem nmb_len (w : Int) (c : Nat) : ∀ rows : List (IR × Nat), (nmb w c rows).length = rows.length
  | [] => rfl
  | _ :: rest => by show (nmb w c rest).length + 1 = rest.length + 1; rw [nmb_len w c rest]
theorem nmb_at {w : Int} {c : Nat} : ∀ {rows : List (IR × Nat)} {i : Nat} {p : IR × Nat}, rows[i]? = some p → (nmb w c rows)[i]? = some (Int.fdiv (w * gI p.1 c - Fs (((rows.drop (i + 1)).map (·.2)).zip ((nmb w c rows).drop (i + 1))) (gI p.1)) (gI p.1 p.2))
  | q :: rest, 0, p, h => by
    have : q = p := Option.some.inj h
    subst this
    rfl
  | q :: rest, i + 1, p, h => nmb_at (rows := rest) h
theorem Fs_sum (x : Fn) : ∀ (A : List Nat) (B : List Int), A.length = B.length → Fs (A.zip B) x = ((List.range A.length).map fun k => x (A.getD k 0) * B.getD k 0).sum
  | [], [], _ => rfl
  | a :: A, b :: B, h => by
    have ih := Fs_sum x A B (by simpa using h)
    show x a * b + Fs (A.zip B) x = _
    rw [ih, List.length_cons, List.range_succ_eq_map, List.map_cons, List.sum_cons, List.map_map]
    rfl
def numS (m k : Nat) (N : List Int) : List Int := List.replicate (m - k) 0 ++ N.drop (m - k)
theorem numS_len {m k : Nat} {N : List Int} (h : N.length = m) : (numS m k N).length = m := by unfold numS; rw [List.length_append, List.length_replicate, List.length_drop]; omega
theorem numS_at {m k z : Nat} {N : List Int} (h : m - k ≤ z) : (numS m k N).getD z 0 = N.getD z 0 := by
  unfold numS
  rw [List.getD_eq_getElem?_getD, List.getElem?_append_right (by rw [List.length_replicate]; exact h), List.length_replicate, List.getElem?_drop, List.getD_eq_getElem?_getD, show m - k + (z - (m - k)) = z by omega]
theorem numS_set {m k : Nat} {N : List Int} {v : Int} (h : N.length = m) (hk : k < m) (hv : N[m - 1 - k]? = some v) : (numS m k N).set (m - 1 - k) v = numS m (k + 1) N := by
  refine List.ext_getElem? fun j => ?_
  rw [List.getElem?_set, numS_len h]
  unfold numS
  by_cases c : m - 1 - k = j
  · subst c
    rw [if_pos rfl, if_pos (by omega), List.getElem?_append_right (by rw [List.length_replicate]; omega), List.length_replicate, List.getElem?_drop, show m - (k + 1) + (m - 1 - k - (m - (k + 1))) = m - 1 - k by omega, hv]
  · rw [if_neg c]
    by_cases c2 : j < m - 1 - k
    · rw [List.getElem?_append_left (by rw [List.length_replicate]; omega), List.getElem?_append_left (by rw [List.length_replicate]; omega), List.getElem?_replicate, List.getElem?_replicate, if_pos (by omega), if_pos (by omega)]
    · rw [List.getElem?_append_right (by rw [List.length_replicate]; omega), List.getElem?_append_right (by rw [List.length_replicate]; omega), List.length_replicate, List.length_replicate, List.getElem?_drop, List.getElem?_drop]
      congr 1
      omega
structure EndA where
  fd : List IR
  pv : List Nat
  col : Nat
structure EndOk (a : EndA) : Prop where
  pl : a.pv.length = a.fd.length
  l10 : a.fd.length ≤ 10
  wd : ∀ r ∈ a.fd, a.col < r.length ∧ ∀ p ∈ a.pv, p < r.length
  rb : ∀ r ∈ a.fd, ∀ j, (gI r j).natAbs < 2 ^ 2000
  nz : ∀ (i : Nat) r p, a.fd[i]? = some r → a.pv[i]? = some p → gI r p ≠ 0
  nb : ∀ z ∈ endN a.fd a.pv a.col, z.natAbs < 2 ^ 100000
def kerR (fd : List IR) (pv : List Nat) (n : Nat) : Option (List Rat) := match (List.range n).find? (fun c => decide (c ∉ pv)) with
  | none => none
  | some c => some ((sprD ((endR fd pv c).map fun r => -r) pv n).set c 1)
theorem pvI_mem {c : Nat} {pv : List Nat} : (c : Int) ∈ pvI pv ↔ c ∈ pv := by
  constructor
  · intro h
    obtain ⟨j, hj, e⟩ := List.mem_map.mp h
    have : j = c := by omega
    rw [← this]; exact hj
  · exact fun h => List.mem_map.mpr ⟨c, h, rfl⟩
theorem getD_dropS {α : Type} {l : List α} {n j : Nat} {d : α} : (l.drop n).getD j d = l.getD (n + j) d := by rw [List.getD_eq_getElem?_getD, List.getD_eq_getElem?_getD, List.getElem?_drop]
/-! ### answers -/
def besR (rows : List (List Rat)) (sides : List Rat) : List IR := (rows.zip sides).map fun p => whR (p.1 ++ [p.2])
def turnR (rows : List (List Rat)) (n : Nat) : List (List Rat) := (List.range n).map fun c => rows.map fun r => r.getD c 0
def askR (rows : List (List Rat)) (sides : List Rat) (n : Nat) : List IR := besR (turnR rows n ++ [sides]) (List.replicate n 0 ++ [1])
def facS (rows : List (List Rat)) (sides : List Rat) (n : Nat) : Sy := ech (askR rows sides n) rows.length
def facR (rows : List (List Rat)) (sides : List Rat) (n : Nat) : List Rat := sprD (endR (facS rows sides n).fd (facS rows sides n).pv rows.length) (facS rows sides n).pv rows.length
inductive Sol
  | none (f : List Rat)
  | one (v : List Rat)
  | several (v k : List Rat)
def valR (s : Sy) (n : Nat) : List Rat := sprD (endR s.fd s.pv n) s.pv n
def anyR (s : Sy) (n : Nat) : Bool := s.rs.any fun r => decide (gI r n ≠ 0)
def solS (s : Sy) (n : Nat) (f : List Rat) : Sol := if anyR s n = true then .none f else match kerR s.fd s.pv n with
  | Option.none => .one (valR s n)
  | some k => .several (valR s n) k
def solR (rows : List (List Rat)) (sides : List Rat) (n : Nat) : Sol := solS (ech (besR rows sides) n) n (facR rows sides n)
structure TabOk (t : List IR) (n : Nat) : Prop where
  ek : ∃ w, EchOk t n w ∧ n < w
  en : ∀ c, c ≤ n → EndOk ⟨(ech t n).fd, (ech t n).pv, c⟩
  lt : ∀ p ∈ (ech t n).pv, p < n
  n10 : n ≤ 9
theorem TabOk.ker {t : List IR} {n : Nat} (h : TabOk t n) : (∀ c, c < n → EndOk ⟨(ech t n).fd, (ech t n).pv, c⟩) ∧ n ≤ 10 ∧ ∀ p ∈ (ech t n).pv, p < n := ⟨fun c hc => h.en c (by omega), by have := h.n10; omega, h.lt⟩
structure TabK (t : List IR) (n : Nat) : Prop where
  ek : ∃ w, EchOk t n w
  ker : (∀ c, c < n → EndOk ⟨(ech t n).fd, (ech t n).pv, c⟩) ∧ n ≤ 10 ∧ ∀ p ∈ (ech t n).pv, p < n
  n10 : n ≤ 9
structure BesOk (rows : List (List Rat)) (sides : List Rat) : Prop where
  len : rows.length ≤ 10
  wh : ∀ p ∈ rows.zip sides, WhOk (p.1 ++ [p.2])
structure FacOk (rows : List (List Rat)) (sides : List Rat) (n : Nat) : Prop where
  rl : rows.length ≤ 9
  n9 : n ≤ 9
  wl : ∀ r ∈ rows, r.length = n
  bs : BesOk (turnR rows n ++ [sides]) (List.replicate n 0 ++ [1])
  tb : TabOk (askR rows sides n) rows.length
structure SolOk (rows : List (List Rat)) (sides : List Rat) (n : Nat) : Prop where
  bs : BesOk rows sides
  tb : TabOk (besR rows sides) n
  fc : anyR (ech (besR rows sides) n) n = true → FacOk rows sides n
end Cs
set_option maxHeartbeats 4000000
namespace Cs
open PySem PySem.Spec PyProof.Rows L2
local macro_rules | `(tactic| walk_at "rd") => `(tactic| (first
  | (refine ⟨_, rfl, ?_⟩)
  | (refine ⟨_, _, rfl, rfl, ?_⟩)
  | (refine .inl ⟨_, rfl, ?_⟩)
  | (refine .inr ⟨_, rfl, ?_⟩)
  | (refine ⟨_, _, _, _, rfl, rfl, SqL.of upd_same, rfl, ?_⟩)
  | (refine ⟨_, _, _, _, rfl, rfl, upd_same, rfl, ?_⟩)
  | (refine ⟨_, ?xs, _, ?v, rfl, rfl, ?h, ?x, ?_⟩; (case h => first | exact SqL.of (by assumption) | exact SqT.of (by assumption) | assumption); (case x => first | rfl | exact atI_nat (j := 0) rfl | exact atI_nat (j := 1) rfl))))
local macro_rules | `(tactic| walk_at "isi") => `(tactic| (first
  | (refine ⟨_, _, _, _, _, rfl, .ty _, .base (.int _), kit_ty kit_it, ?_⟩)
  | (refine ⟨_, _, _, _, _, rfl, .ty _, .base (.int _), kit_ty kit_ib, ?_⟩)
  | (refine ⟨_, _, _, _, _, rfl, .ty _, .base (.int _), kit_ty kit_ii, ?_⟩)
  | (refine ⟨_, _, _, _, _, rfl, .ty _, .base (.bl _), kit_ty kit_bt, ?_⟩)
  | (refine ⟨_, _, _, _, _, rfl, .ty _, .base (.bl _), kit_ty kit_bb, ?_⟩)
  | (refine ⟨_, _, _, _, _, rfl, .ty _, .base (.bl _), kit_ty kit_bi, ?_⟩)))
local macro_rules | `(tactic| walk_at "ev") => `(tactic| (first
  | exact ev_var rfl
  | exact ev_int
  | exact ev_str
  | exact ev_bl
  | exact ev_non
  | (refine ev_add ?_ ?_ <;> walk_at "ev")
  | (refine ev_sub ?_ ?_ <;> walk_at "ev")
  | (refine ev_mul ?_ ?_ ?_ <;> (try walk_at "ev"))
  | (refine ev_neg ?_ <;> walk_at "ev")
  | (refine ev_num ?_ <;> walk_at "ev")
  | (refine ev_den ?_ <;> walk_at "ev")
  | (refine ev_cmp ?_ ?_ <;> walk_at "ev")
  | (refine ev_eqI ?_ ?_ <;> walk_at "ev")
  | (refine ev_eqS ?_ ?_ <;> walk_at "ev")
  | (refine ev_neI ?_ ?_ <;> walk_at "ev")
  | (refine ev_neS ?_ ?_ <;> walk_at "ev")
  | (refine ev_inS ?_ ?_ <;> walk_at "ev")
  | (refine ev_niS ?_ ?_ <;> walk_at "ev")
  | (refine ev_len ?_ <;> walk_at "ev")
  | (refine ev_list ?_ <;> walk_at "ev")
  | (refine ev_listRev ?_ <;> walk_at "ev")
  | (refine ev_int1 ?_ <;> walk_at "ev")))
local macro_rules | `(tactic| walk_at "ea") => `(tactic| (first
  | exact ea_nil
  | (refine ea_cons ?_ ?_ <;> (first | walk_at "ev" | walk_at "ea" | skip))))
local macro_rules | `(tactic| walk_at "sb") => `(tactic| (first | exact True.intro | (refine And.intro rfl ?_; walk_at "sb")))
local macro_rules | `(tactic| walk_at "subt") => `(tactic| repeat (first | exact List.nil_sublist _ | apply List.Sublist.cons₂ | apply List.Sublist.cons))
section
variable {P : Program} {w : World} {K : PySem.W.Frag} {mg : Str → Option Value} {base : Heap}
/-! ### rows in echelon form -/
abbrev tRw (K : PySem.W.Frag) : Ty IR := tLs K tInt
abbrev tRs (K : PySem.W.Frag) : Ty (List IR) := tLs K (tLs K tInt)
abbrev tFs (K : PySem.W.Frag) : Ty RR := tLs K (tFr K)
abbrev tFss (K : PySem.W.Frag) : Ty (List RR) := tLs K (tLs K (tFr K))
theorem tgt_fr {i j : Nat} : Tgt (gTup K 2 (gCons (gName i) (gCons (gName j) gNil))) (tFr K) (fun r => [(i, tInt.is r.num), (j, tInt.is (r.den : Int))]) := fun W σ H v r o ⟨p, e, s⟩ Q q => by
  refine ⟨p, [_, _], e, sqT_mono hid_sub s, rfl, _, [_], rfl, _, [], rfl, rfl, q _ ((o.put (i := i) (f := tInt.is r.num) rfl).put (i := j) (f := tInt.is (r.den : Int)) rfl) fun vs h => ?_⟩
  rw [wipe_set (h (j, tInt.is (r.den : Int)) (by simp)), wipe_set (h (i, tInt.is r.num) (List.mem_cons_self ..))]
theorem atG {r : IR} {c : Nat} (h : c < r.length) : atI r (c : Int) = some (gI r c) := by rw [atI_D (d := 0) (by omega) (by omega), Int.toNat_natCast]; rfl
theorem mul2k {i j : Int} (h : i.natAbs < 2 ^ 2000) (g : j.natAbs < 2 ^ 2000) : IntMulOk i j := mulB h g (by decide) (by decide)
abbrev spWhlS (K : PySem.W.Frag) : Sp := spP (fun r : RR => [(tFs K).is r]) (tRw K) WhOk whR
abbrev sWhl : Stmt := topS 29
theorem scWhl : FnScope ["row", "common", "_", "q", "p"] ["row"] (defScope sWhl) := ⟨rfl, rfl, rfl, by decide +kernel, rfl, by decide +kernel, by decide +kernel⟩
theorem ok_whole {f : Addr} {fd : FuncData} {k : Nat} (F : Fun K "_whole" "_whole" sWhl f fd) (m_lcm : mg "lcm" = some (.builtin "math.lcm")) : FnOk P w K mg base CX0 (k + 1) f fd ["row"] (spWhlS K) := by
  refine ok_P F scWhl (fun _ => rfl) fun cdv A outer s H0 S row Q E hr hp out => ⟨_, (pss_cons (ps_set (i := 1) scWhl.nd rfl (Or.inr rfl) pe_int)
      (pss_cons (ps_for PassesOwn.never rfl (pi_list (pv 0)) (pg_tup rfl (pgs_cons (pg_name (i := 2) scWhl.nd rfl (Or.inl rfl)) (pgs_cons (pg_name (i := 3) scWhl.nd rfl (Or.inl rfl)) pgs_nil))) (pss_one (ps_set (i := 1) scWhl.nd rfl (Or.inr rfl) (pe_callBfun cr_lcmS (by rfl) m_lcm (pa_cons (pv 1) (pa_cons (pv 3) pa_nil))))))
      (pss_one (ps_ret (pe_lc (own := [("p", 4), ("q", 3)]) (g := gTup K 2 (gCons (gName 4) (gCons (gName 3) gNil))) (tt := tYes) rfl scWhl.nd (pi_list (pv 0)) (blkOk_by (own := [("p", 4), ("q", 3)]) (N := ["row", "common", "_", "q", "p"]) (sc := defScope sWhl) (by decide +kernel)) (fun _ _ _ _ _ => (pg_tup rfl (pgs_cons (pg_name (i := 4) scWhl.nd rfl (Or.inl rfl)) (pgs_cons (pg_name (i := 3) scWhl.nd rfl (Or.inl rfl)) pgs_nil)))) (fun _ _ _ _ _ => pts_nil) (fun _ _ _ _ _ => (pe_op op_mulA (pv 4) (pe_op op_fdivA (pv 1) (pv 3))))))))), ?_⟩
  have hp : WhOk row := hp
  refine go_set (t := tInt) (x := 1) ev_int ?_
  refine go_seq (go_for (ι := Unit) (iv_list (ev_var rfl)) tgt_fr (fun k _ => ([], [some ((tFs K).is row), some (tInt.is (lcmR (row.take k) : Int)), none, none, none])) (fun _ _ => True) () trivial (fun σ H o => o.sb (by walk_at "sb")) (fun k _ r f hx _ => ?_) (fun _ _ σ H o => ?_))
  · have hk : k < row.length := (List.getElem?_eq_some_iff.mp hx).1
    refine go_set1 (x := ((Nat.lcm (lcmR (row.take k)) r.den : Nat) : Int)) (ev_is (ev_lcmS (ev_var rfl) (ev_var rfl) (by rw [Int.natAbs_natCast]; exact hp.cum k (by omega)) (by rw [Int.natAbs_natCast]; exact hp.den r (List.mem_of_getElem? hx))) (by rw [Int.natAbs_natCast, Int.natAbs_natCast])) fun σ H o => ⟨(), trivial, ?_⟩
    show Ok ⟨H0, [], S, [], [f], [some ((tFs K).is row), some (tInt.is (lcmR (row.take (k + 1)) : Int)), none, none, none]⟩ σ H
    rw [take_snoc hx, lcm_snoc]
    exact o.sb (by walk_at "sb")
  · rw [List.take_length] at o
    dsimp only at o ⊢
    refine go_at o (go_end (y := whR row) (ev_lcm (K := K) (f := fun r : Rat => r.num * Int.fdiv (lcmR row : Int) (r.den : Int)) (iv_list (ev_var rfl)) tgt_fr (by simp) (Nat.lt_of_le_of_lt hp.len (by decide)) fun D φ F r _ hm => ?_) out)
    have h1 := hp.num r hm
    have h2 := hp.den r hm
    have h3 := hp.cum _ (Nat.le_refl _)
    rw [List.take_length] at h3
    refine ev_mul (ev_var rfl) (ev_fdiv (ev_var rfl) (ev_var rfl) ⟨den_ne r, ?_⟩) (mul2k h1 ?_)
    · rw [Int.natAbs_natCast]; exact Nat.lt_of_lt_of_le h2 (Nat.pow_le_pow_right (by decide) (by decide))
    · rw [Int.fdiv_eq_ediv_of_nonneg _ (Int.natCast_nonneg _), ← Int.natCast_ediv, Int.natAbs_natCast]
      exact Nat.lt_of_le_of_lt (Nat.div_le_self _ _) (Nat.lt_of_lt_of_le h3 (Nat.pow_le_pow_right (by decide) (by decide)))
abbrev spWidth (K : PySem.W.Frag) : Sp := spP (fun r : List RR => [(tFss K).is r]) tInt (fun r => r ≠ []) (fun r => (((r.getD 0 []).length : Nat) : Int))
abbrev sWid : Stmt := topS 24
theorem scWid : FnScope ["rows"] ["rows"] (defScope sWid) := ⟨rfl, rfl, rfl, by decide +kernel, rfl, by decide +kernel, by decide +kernel⟩
theorem ok_width {f : Addr} {fd : FuncData} {k : Nat} (F : Fun K "_width" "_width" sWid f fd) (z_len : mg "len" = none) : FnOk P w K mg base CX0 (k + 1) f fd ["rows"] (spWidth K) := by
  refine ok_P F scWid (fun _ => rfl) fun cdv A outer s H0 S rows Q E hr hp out => ⟨_, (pss_one (ps_ret (pe_ifExp (pt_truth (pv 0) (fun _ => rfl)) (pe_callB call_len_seq (by rfl) z_len PySem.boot_len (pa_cons (pe_ix ix_list (pv 0) pe_int (fun _ _ => rfl)) pa_nil)) pe_int))), ?_⟩
  have hp : rows ≠ [] := hp
  have l0 : 0 < rows.length := List.length_pos_iff.mpr hp
  exact go_end (y := (((rows.getD 0 []).length : Nat) : Int)) (ev_if (b := true) (et_is (et_tru (ev_var rfl)) (by cases rows with | nil => exact absurd rfl hp | cons => rfl)) (fun _ => ev_len (ev_ixL (ev_var rfl) ev_int (atI_D (d := []) (by decide) (by omega)))) (fun h => by cases h)) out
abbrev spFRow (K : PySem.W.Frag) : Sp := spP (fun a : List IR × Nat => [(tRs K).is a.1, tInt.is (a.2 : Int)]) (tOpt tInt) (fun a => ∀ r ∈ a.1, a.2 < r.length) (fun a => (fRow a.1 a.2).map fun (n : Nat) => (n : Int))
abbrev sFRow : Stmt := topS 31
theorem scFRow : FnScope ["rows", "column", "at", "row"] ["rows", "column"] (defScope sFRow) := ⟨rfl, rfl, rfl, by decide +kernel, rfl, by decide +kernel, by decide +kernel⟩
theorem ok_frow {f : Addr} {fd : FuncData} {k : Nat} (F : Fun K "_first_row" "_first_row" sFRow f fd) (z_enumerate : mg "enumerate" = none) : FnOk P w K mg base CX0 (k + 1) f fd ["rows", "column"] (spFRow K) := by
  refine ok_P F scFRow (fun _ => rfl) fun cdv A outer s H0 S a Q E hr hp out => ⟨_, (pss_cons (ps_for PassesOwn.never rfl (pi_enum (by rfl) z_enumerate (pa_cons (pv 0) pa_nil)) (pg_tup rfl (pgs_cons (pg_name (i := 2) scFRow.nd rfl (Or.inl rfl)) (pgs_cons (pg_name (i := 3) scFRow.nd rfl (Or.inl rfl)) pgs_nil))) (pss_one (ps_if (pt_cmpR op_ne (pe_ix ix_list (pv 3) (pv 1) (fun _ _ => rfl)) pe_int (nomark _)) (pss_one (ps_ret (pv 2))) pss_nil)))
      (pss_one (ps_ret pe_non))), ?_⟩
  obtain ⟨rows, c⟩ := a
  have hp : ∀ r ∈ rows, c < r.length := hp
  refine go_seq (go_for (ι := Unit) (iv_enum (ev_var rfl)) tgt_pair (fun k _ => ([], [some ((tRs K).is rows), some (tInt.is (c : Int)), none, none])) (fun k _ => ∀ r ∈ rows.take k, gI r c = 0) () (fun r h => by rw [List.take_zero] at h; cases h) (fun σ H o => o.sb (by walk_at "sb")) (fun k _ x f hx hk => ?_) (fun _ hk σ H o => ?_))
  · rw [List.getElem?_map, List.getElem?_zipIdx] at hx
    obtain ⟨y, hy, rfl⟩ := Option.map_eq_some_iff.mp hx
    obtain ⟨r, hr', rfl⟩ := Option.map_eq_some_iff.mp hy
    have hl := hp r (List.mem_of_getElem? hr')
    have kl : k < rows.length := (List.getElem?_eq_some_iff.mp hr').1
    refine go_if (b := decide (gI r c ≠ 0)) (et_is (et_of (ev_neI (ev_ixL (ev_var rfl) (ev_var rfl) (atG hl)) ev_int)) (by simp)) (fun h => ?_) (fun h => go_next fun σ H o => ⟨(), fun m hm => ?_, o.sb (by walk_at "sb")⟩)
    · have hz : gI r c ≠ 0 := of_decide_eq_true h
      have e : fRow rows c = some k := by
        unfold fRow
        rw [List.findIdx?_eq_some_iff_getElem]
        refine ⟨kl, ?_, fun j hj => ?_⟩
        · rw [(List.getElem?_eq_some_iff.mp hr').2]; exact h
        · have := hk rows[j] (List.mem_iff_getElem?.mpr ⟨j, by rw [List.getElem?_take, if_pos hj]; exact List.getElem?_eq_getElem (by omega)⟩)
          simp [this]
      refine go_end (y := some (k : Int)) (ev_someI (ev_is (ev_var rfl) (by simp))) out ?_
      show _ = (fRow rows c).map _
      rw [e]; rfl
    · rw [take_snoc hr'] at hm
      rcases List.mem_append.mp hm with hm | hm
      · exact hk m hm
      · rw [List.mem_singleton.mp hm]
        have := of_decide_eq_false h
        exact Classical.byContradiction this
  · dsimp only at o ⊢
    refine go_at o (go_end (y := none) ev_nonO out ?_)
    show _ = (fRow rows c).map _
    have hk : ∀ r ∈ rows.take (rows.zipIdx.map fun p => ((p.2 : Int), p.1)).length, gI r c = 0 := hk
    rw [List.length_map, List.length_zipIdx, List.take_length] at hk
    have e : fRow rows c = none := by
      unfold fRow
      rw [List.findIdx?_eq_none_iff]
      intro r hr'
      simp [hk r hr']
    rw [e]; rfl
structure RdA where
  r : IR
  h : IR
  c : Nat
  d : Int
structure RdOk (a : RdA) : Prop where
  rl : a.c < a.r.length
  hl : a.h.length = a.r.length
  l10 : a.r.length ≤ 10
  rb : ∀ j, (gI a.r j).natAbs < 2 ^ 2000
  hb : ∀ j, (gI a.h j).natAbs < 2 ^ 2000
  d0 : a.d ≠ 0
  db : a.d.natAbs < 2 ^ 2000
abbrev spRed (K : PySem.W.Frag) : Sp := spP (fun a : RdA => [(tRw K).is a.r, (tRw K).is a.h, tInt.is (a.c : Int), tInt.is a.d]) (tRw K) RdOk (fun a => redR a.r a.h a.c a.d)
abbrev sRed : Stmt := topS 32
theorem scRed : FnScope ["row", "head", "column", "divisor", "own", "factor", "left", "a", "b"] ["row", "head", "column", "divisor"] (defScope sRed) := ⟨rfl, rfl, rfl, by decide +kernel, rfl, by decide +kernel, by decide +kernel⟩
theorem ok_red {f : Addr} {fd : FuncData} {k : Nat} (F : Fun K "_reduced" "_reduced" sRed f fd) (z_zip : mg "zip" = none) : FnOk P w K mg base CX0 (k + 1) f fd ["row", "head", "column", "divisor"] (spRed K) := by
  refine ok_P F scRed (fun _ => rfl) fun cdv A outer s H0 S a Q E hr hp out => ⟨_, (pss_cons (ps_set (i := 4) scRed.nd rfl (Or.inr rfl) (pe_ix ix_list (pv 0) (pv 2) (fun _ _ => rfl)))
      (pss_cons (ps_set (i := 5) scRed.nd rfl (Or.inr rfl) (pe_ix ix_list (pv 1) (pv 2) (fun _ _ => rfl)))
      (pss_cons (ps_setLc (i := 6) (own := [("a", 7), ("b", 8)]) (g := gTup K 2 (gCons (gName 7) (gCons (gName 8) gNil))) (tt := tYes) rfl scRed.nd rfl rfl (sw_true rfl rfl rfl (by decide +kernel)) (pi_zip (by rfl) z_zip (pa_cons (pe_slice sl_list (pv 0) (po_some (pe_op op_add (pv 2) pe_int)) po_none) (pa_cons (pe_slice sl_list (pv 1) (po_some (pe_op op_add (pv 2) pe_int)) po_none) pa_nil))) (blkOk_by (own := [("a", 7), ("b", 8)]) (N := ["row", "head", "column", "divisor", "own", "factor", "left", "a", "b"]) (sc := defScope sRed) (by decide +kernel)) (fun _ _ _ _ _ => (pg_tup rfl (pgs_cons (pg_name (i := 7) scRed.nd rfl (Or.inl rfl)) (pgs_cons (pg_name (i := 8) scRed.nd rfl (Or.inl rfl)) pgs_nil)))) (fun _ _ _ _ _ => pts_nil) (fun _ _ _ _ _ => (pe_op op_fdivA (pe_op op_sub (pe_op op_mulA (pv 5) (pv 7)) (pe_op op_mulA (pv 4) (pv 8))) (pv 3))))
      (pss_one (ps_ret (pe_op op_cat (pe_op op_rep (pe_lst (pa_cons pe_int pa_nil)) (pe_op op_add (pv 2) pe_int)) (pv 6))))))), ?_⟩
  obtain ⟨r, h, c, d⟩ := a
  have R : RdOk ⟨r, h, c, d⟩ := hp
  have rl : c < r.length := R.rl
  have hl : h.length = r.length := R.hl
  have l10 : r.length ≤ 10 := R.l10
  refine go_set (t := tInt) (x := gI r c) (ev_ixL (ev_var rfl) (ev_var rfl) (atG rl)) ?_
  refine go_set (t := tInt) (x := gI h c) (ev_ixL (ev_var rfl) (ev_var rfl) (atG (by rw [hl]; exact rl))) ?_
  have cut : ∀ xs : IR, cutL xs (some ((c : Int) + 1)) none = xs.drop (c + 1) := fun xs => cutL_from (n := c + 1)
  have z1 : -(2 ^ 63) ≤ (c : Int) + 1 := by omega
  have z2 : (c : Int) + 1 < 2 ^ 63 := by omega
  have z3 : ((c : Int) + 1).toNat ≤ sizeLine := Nat.le_trans (by omega) (show 10 ≤ sizeLine by decide)
  refine go_set (t := tRw K) (x := ((r.drop (c + 1)).zip (h.drop (c + 1))).map fun p => Int.fdiv (gI h c * p.1 - gI r c * p.2) d) (ev_lcm (K := K) (f := fun p : Int × Int => Int.fdiv (gI h c * p.1 - gI r c * p.2) d) (iv_zip (ev_is (ev_sliceL (ev_var rfl) (eo_some (ev_add (ev_var rfl) ev_int)) eo_none) (cut r)) (ev_is (ev_sliceL (ev_var rfl) (eo_some (ev_add (ev_var rfl) ev_int)) eo_none) (cut h))) tgt_pair (by simp) (Nat.lt_of_le_of_lt (by rw [List.length_zip, List.length_drop]; omega) (show 10 < sizeLine by decide)) fun D φ F p _ hm => ?_) ?_
  · obtain ⟨a1, a2⟩ := List.of_mem_zip (a := p.1) (b := p.2) hm
    have bd : ∀ {xs : IR} {z : Int}, (∀ j, (gI xs j).natAbs < 2 ^ 2000) → z ∈ xs.drop (c + 1) → z.natAbs < 2 ^ 2000 := fun {xs z} hb hz => by
      obtain ⟨j, hj⟩ := List.mem_iff_getElem?.mp (List.mem_of_mem_drop hz)
      have e : gI xs j = z := by unfold gI; rw [List.getD_eq_getElem?_getD, hj]; rfl
      rw [← e]; exact hb j
    exact ev_fdiv (ev_sub (ev_mul (ev_var rfl) (ev_var rfl) (mul2k (R.hb c) (bd R.rb a1))) (ev_mul (ev_var rfl) (ev_var rfl) (mul2k (R.rb c) (bd R.hb a2)))) (ev_var rfl) ⟨R.d0, Nat.lt_of_lt_of_le R.db (Nat.pow_le_pow_right (by decide) (by decide))⟩
  · refine go_end (y := redR r h c d) (ev_cat (ev_is (ev_repS (ev_lst (el_cons ev_int el_nil) (by show 1 ≤ sizeLine; decide)) (ev_add (ev_var rfl) ev_int) z1 z2 z3) (x' := List.replicate (c + 1) 0) (by congr 1)) (ev_var rfl) (Nat.le_trans ?_ (show 20 ≤ sizeLine by decide))) out
    rw [List.length_replicate, List.length_map, List.length_zip, List.length_drop]
    omega
abbrev spEch (K : PySem.W.Frag) : Sp := spP (fun a : List IR × Nat => [(tRs K).is a.1, tInt.is (a.2 : Int)]) (tP3 K (tRs K) (tRw K) (tRs K)) (fun a => ∃ w, EchOk a.1 a.2 w) (fun a => ((ech a.1 a.2).fd, pvI (ech a.1 a.2).pv, (ech a.1 a.2).rs))
abbrev sEch : Stmt := topS 30
theorem scEch : FnScope ["table", "columns", "found", "pivots", "rest", "divisor", "column", "at", "head", "others", "row"] ["table", "columns"] (defScope sEch) := ⟨rfl, rfl, rfl, by decide +kernel, rfl, by decide +kernel, by decide +kernel⟩
theorem ok_ech {f : Addr} {fd : FuncData} {k : Nat} (F : Fun K "_echelon" "_echelon" sEch f fd) (c_first_row : Cal P w K mg base k "_first_row" ["rows", "column"] (spFRow K)) (c_reduced : Cal P w K mg base k "_reduced" ["row", "head", "column", "divisor"] (spRed K)) (z_range : mg "range" = none) : FnOk P w K mg base CX0 (k + 1) f fd ["table", "columns"] (spEch K) := by
  refine ok_P F scEch (fun _ => rfl) fun cdv A outer s H0 S a Q E hr hp out => ⟨_, (pss_cons (ps_set (i := 2) scEch.nd rfl (Or.inl rfl) (pe_lst pa_nil))
      (pss_cons (ps_set (i := 3) scEch.nd rfl (Or.inl rfl) (pe_lst pa_nil))
      (pss_cons (ps_set (i := 4) scEch.nd rfl (Or.inl rfl) (pv 0))
      (pss_cons (ps_set (i := 5) scEch.nd rfl (Or.inr rfl) pe_int)
      (pss_cons (ps_for PassesOwn.never rfl (pi_range1 rfl z_range (pa_cons (pv 1) pa_nil)) (pg_name (i := 6) scEch.nd rfl (Or.inr rfl)) (pss_cons (ps_set (i := 7) scEch.nd rfl (Or.inl rfl) (pe_cal c_first_row hr (by rfl) (pa_cons (pv 4) (pa_cons (pv 6) pa_nil))))
      (pss_cons (ps_if (pt_cmpR op_isN (pv 7) pe_non (nomark _)) (pss_one ps_continue) pss_nil)
      (pss_cons (ps_set (i := 8) scEch.nd rfl (Or.inr rfl) (pe_ix ix_list (pv 4) (pv 7) (fun _ _ => rfl)))
      (pss_cons (ps_set (i := 9) scEch.nd rfl (Or.inl rfl) (pe_op op_cat (pe_slice sl_list (pv 4) po_none (po_some (pv 7))) (pe_slice sl_list (pv 4) (po_some (pe_op op_add (pv 7) pe_int)) po_none)))
      (pss_cons (ps_setLc (i := 4) (own := [("row", 10)]) (g := gName 10) (tt := tYes) rfl scEch.nd rfl rfl (sw_true rfl rfl rfl (by decide +kernel)) (pi_list (pv 9)) (blkOk_by (own := [("row", 10)]) (N := ["table", "columns", "found", "pivots", "rest", "divisor", "column", "at", "head", "others", "row"]) (sc := defScope sEch) (by decide +kernel)) (fun _ _ _ _ _ => (pg_name (i := 10) scEch.nd rfl (Or.inl rfl))) (fun _ _ _ _ _ => pts_nil) (fun _ _ _ _ _ => (pe_cal c_reduced hr (by rfl) (pa_cons (pv 10) (pa_cons (pv 8) (pa_cons (pv 6) (pa_cons (pv 5) pa_nil)))))))
      (pss_cons (ps_set (i := 5) scEch.nd rfl (Or.inr rfl) (pe_ix ix_list (pv 8) (pv 6) (fun _ _ => rfl)))
      (pss_cons (ps_expr (pe_bm PySem.F.plainAttrs_list PySem.F.slot_list_append PySem.F.type_list_append mt_append (pv 2) (pa_cons (pv 8) pa_nil)))
      (pss_one (ps_expr (pe_bm PySem.F.plainAttrs_list PySem.F.slot_list_append PySem.F.type_list_append mt_append (pv 3) (pa_cons (pv 6) pa_nil))))))))))))
      (pss_one (ps_ret (pe_tup (pa_cons (pv 2) (pa_cons (pv 3) (pa_cons (pv 4) pa_nil))))))))))), ?_⟩
  obtain ⟨t, n⟩ := a
  obtain ⟨w, hp⟩ := hp
  have hp : EchOk t n w := hp
  have nw := hp.nw
  have w10 := hp.w10
  refine go_newN (t := tRw K) el_nil (k := fun pF npF => ?_)
  refine go_newN (t := tInt) el_nil (k := fun pP npP => ?_)
  refine go_set (ev_var (t := tRs K) (x := t) rfl) ?_
  refine go_set (t := tInt) (x := 1) ev_int ?_
  refine go_seq (go_for (ι := Unit) (iv_range1 (ev_var rfl) (by omega) (by omega)) tgt_name (fun k _ => ([cell pP (cLs tInt (pvI (ech t k).pv)), cell pF (cLs (tRw K) (ech t k).fd)], [some ((tRs K).is t), some (tInt.is (n : Int)), some (tRf.is pF), some (tRf.is pP), some ((tRs K).is (ech t k).rs), some (tInt.is (ech t k).dv), none, none, none, none, none])) (fun _ _ => True) () trivial (fun σ H o => o.sb (by walk_at "sb")) (fun k _ x f hx _ => ?_) (fun _ _ σ H o => ?_))
  · rw [List.getElem?_map, Int.toNat_natCast] at hx
    obtain ⟨k', hk', rfl⟩ := Option.map_eq_some_iff.mp hx
    have kn : k < n := by have := (List.getElem?_eq_some_iff.mp hk').1; rw [List.length_range] at this; exact this
    obtain rfl : k = k' := by rw [List.getElem?_range kn] at hk'; exact Option.some.inj hk'
    have A := hp.at_ k (by omega)
    have A' := hp.at_ (k + 1) (by omega)
    have es := ech_succ t k
    generalize ech t k = s0 at A es ⊢
    rw [es] at A' ⊢
    refine go_set (t := tOpt tInt) (x := (fRow s0.rs k).map fun (n : Nat) => (n : Int)) (ev_call (z := (s0.rs, k)) (ea_cons (ev_var rfl) (ea_cons (ev_var rfl) ea_nil)) fun r hr' => by rw [(A.row r hr').1]; omega) ?_
    unfold echS at A' ⊢
    cases e : fRow s0.rs k with
    | none =>
      refine go_ifr (b := true) (et_isN (ev_var (x := none) rfl)) (fun _ => ?_) (fun h => by cases h)
      refine go_contS (W' := ⟨H0, [], S, [], [], []⟩) fun σ H o => ⟨(), trivial, ?_⟩
      exact o.sb (by walk_at "sb")
    | some i =>
      rw [e] at A'
      dsimp only at A' ⊢
      have il : i < s0.rs.length := by
        unfold fRow at e
        rw [List.findIdx?_eq_some_iff_getElem] at e
        exact e.1
      refine go_ifr (b := false) (et_isN (ev_var (x := some (i : Int)) rfl)) (fun h => by cases h) (fun _ => ?_)
      have hm : s0.rs.getD i [] ∈ s0.rs := getD_mem il
      have at1 : atI s0.rs (i : Int) = some (s0.rs.getD i []) := by rw [atI_D (d := []) (by omega) (by omega), Int.toNat_natCast]
      have at2 : atI (s0.rs.getD i []) (k : Int) = some (gI (s0.rs.getD i []) k) := atG (by rw [(A.row _ hm).1]; omega)
      refine go_set (t := tRw K) (x := s0.rs.getD i []) (ev_ixL (ev_var rfl) (ev_some (ev_var rfl)) at1) ?_
      refine go_set (t := tRs K) (x := s0.rs.take i ++ s0.rs.drop (i + 1)) (ev_cat (ev_is (ev_sliceL (ev_var rfl) eo_none (eo_some (ev_some (ev_var rfl)))) cutL_to) (ev_is (ev_sliceL (ev_var rfl) (eo_some (ev_add (ev_some (ev_var rfl)) ev_int)) eo_none) (cutL_from (n := i + 1))) (Nat.le_trans ?_ (show 20 ≤ sizeLine by decide))) ?_
      · have := A.len
        rw [List.length_take, List.length_drop]
        omega
      have sub : ∀ r ∈ s0.rs.take i ++ s0.rs.drop (i + 1), r ∈ s0.rs := fun r hr' => by
        rcases List.mem_append.mp hr' with z | z
        · exact List.mem_of_mem_take z
        · exact List.mem_of_mem_drop z
      refine go_set (t := tRs K) (x := (s0.rs.take i ++ s0.rs.drop (i + 1)).map fun r => redR r (s0.rs.getD i []) k s0.dv) (ev_lcm (K := K) (f := fun r : IR => redR r (s0.rs.getD i []) k s0.dv) (iv_list (ev_var rfl)) tgt_name (by simp) (Nat.lt_of_le_of_lt (m := 20) ?_ (by decide)) fun D φ F r _ hr' => ?_) ?_
      · have := A.len
        rw [List.length_append, List.length_take, List.length_drop]
        omega
      · have q := A.row r (sub r hr')
        have qh := A.row _ hm
        exact ev_call (z := (⟨r, s0.rs.getD i [], k, s0.dv⟩ : RdA)) (ea_cons (ev_var rfl) (ea_cons (ev_var rfl) (ea_cons (ev_var rfl) (ea_cons (ev_var rfl) ea_nil)))) ⟨by show k < r.length; rw [q.1]; omega, by show (s0.rs.getD i []).length = r.length; rw [q.1, qh.1], by show r.length ≤ 10; rw [q.1]; exact w10, q.2, qh.2, A.d0, A.dn⟩
      refine go_set (t := tInt) (x := gI (s0.rs.getD i []) k) (ev_ixL (ev_var rfl) (ev_var rfl) at2) ?_
      refine go_app (p := pF) (t := tRw K) (xs := s0.fd) (R := [cell pP (cLs tInt (pvI s0.pv))]) rfl (List.Perm.swap ..) (ev_var rfl) (Nat.lt_of_le_of_lt A.fln (by decide)) ?_
      refine go_app1 (p := pP) (t := tInt) (xs := pvI s0.pv) (R := [cell pF (cLs (tRw K) (s0.fd ++ [s0.rs.getD i []]))]) rfl (List.Perm.swap ..) (ev_var rfl) (Nat.lt_of_le_of_lt (m := 10) (by rw [List.length_map, A.pl]; exact A.fln) (by decide)) fun σ H o => ⟨(), trivial, ?_⟩
      have pe : pvI (s0.pv ++ [k]) = pvI s0.pv ++ [(k : Int)] := by unfold pvI; rw [List.map_append]; rfl
      rw [pe]
      exact o.sb (by walk_at "sb")
  · have hl : ((List.range ((n : Int)).toNat).map fun (i : Nat) => (i : Int)).length = n := by rw [List.length_map, List.length_range, Int.toNat_natCast]
    rw [hl] at o
    dsimp only at o ⊢
    refine go_at o (go_frz (K := K) (i := 3) (t := tInt) (xs := pvI (ech t n).pv) rfl (fun a m => nomatch m) npP (fun a m => ?_) ?_)
    · exact List.mem_cons.mpr (.inl (List.mem_singleton.mp m))
    refine go_frz (K := K) (i := 2) (t := tRw K) (xs := (ech t n).fd) rfl (fun a m => nomatch m) npF (fun a m => nomatch m) ?_
    exact go_end (y := ((ech t n).fd, pvI (ech t n).pv, (ech t n).rs)) (ev_p3 (ev_var rfl) (ev_var rfl) (ev_var rfl)) out
end
end Cs
set_option maxHeartbeats 4000000
namespace Cs
open PySem PySem.Spec PyProof.Rows L2
local macro_rules | `(tactic| walk_at "rd") => `(tactic| (first
  | (refine ⟨_, rfl, ?_⟩)
  | (refine ⟨_, _, rfl, rfl, ?_⟩)
  | (refine .inl ⟨_, rfl, ?_⟩)
  | (refine .inr ⟨_, rfl, ?_⟩)
  | (refine ⟨_, _, _, _, rfl, rfl, SqL.of upd_same, rfl, ?_⟩)
  | (refine ⟨_, _, _, _, rfl, rfl, upd_same, rfl, ?_⟩)
  | (refine ⟨_, ?xs, _, ?v, rfl, rfl, ?h, ?x, ?_⟩; (case h => first | exact SqL.of (by assumption) | exact SqT.of (by assumption) | assumption); (case x => first | rfl | exact atI_nat (j := 0) rfl | exact atI_nat (j := 1) rfl))))
local macro_rules | `(tactic| walk_at "isi") => `(tactic| (first
  | (refine ⟨_, _, _, _, _, rfl, .ty _, .base (.int _), kit_ty kit_it, ?_⟩)
  | (refine ⟨_, _, _, _, _, rfl, .ty _, .base (.int _), kit_ty kit_ib, ?_⟩)
  | (refine ⟨_, _, _, _, _, rfl, .ty _, .base (.int _), kit_ty kit_ii, ?_⟩)
  | (refine ⟨_, _, _, _, _, rfl, .ty _, .base (.bl _), kit_ty kit_bt, ?_⟩)
  | (refine ⟨_, _, _, _, _, rfl, .ty _, .base (.bl _), kit_ty kit_bb, ?_⟩)
  | (refine ⟨_, _, _, _, _, rfl, .ty _, .base (.bl _), kit_ty kit_bi, ?_⟩)))
local macro_rules | `(tactic| walk_at "ev") => `(tactic| (first
  | exact ev_var rfl
  | exact ev_int
  | exact ev_str
  | exact ev_bl
  | exact ev_non
  | (refine ev_add ?_ ?_ <;> walk_at "ev")
  | (refine ev_sub ?_ ?_ <;> walk_at "ev")
  | (refine ev_mul ?_ ?_ ?_ <;> (try walk_at "ev"))
  | (refine ev_neg ?_ <;> walk_at "ev")
  | (refine ev_num ?_ <;> walk_at "ev")
  | (refine ev_den ?_ <;> walk_at "ev")
  | (refine ev_cmp ?_ ?_ <;> walk_at "ev")
  | (refine ev_eqI ?_ ?_ <;> walk_at "ev")
  | (refine ev_eqS ?_ ?_ <;> walk_at "ev")
  | (refine ev_neI ?_ ?_ <;> walk_at "ev")
  | (refine ev_neS ?_ ?_ <;> walk_at "ev")
  | (refine ev_inS ?_ ?_ <;> walk_at "ev")
  | (refine ev_niS ?_ ?_ <;> walk_at "ev")
  | (refine ev_len ?_ <;> walk_at "ev")
  | (refine ev_list ?_ <;> walk_at "ev")
  | (refine ev_listRev ?_ <;> walk_at "ev")
  | (refine ev_int1 ?_ <;> walk_at "ev")))
local macro_rules | `(tactic| walk_at "ea") => `(tactic| (first
  | exact ea_nil
  | (refine ea_cons ?_ ?_ <;> (first | walk_at "ev" | walk_at "ea" | skip))))
local macro_rules | `(tactic| walk_at "sb") => `(tactic| (first | exact True.intro | (refine And.intro rfl ?_; walk_at "sb")))
local macro_rules | `(tactic| walk_at "subt") => `(tactic| repeat (first | exact List.nil_sublist _ | apply List.Sublist.cons₂ | apply List.Sublist.cons))
section
variable {P : Program} {w : World} {K : PySem.W.Frag} {mg : Str → Option Value} {base : Heap}
/-! ### factors, kernels -/
section
variable {TB : List RS}
theorem atI_lst {α : Type} {xs : List α} {d : α} (h : 0 < xs.length) : atI xs (-1) = some (xs.getD (xs.length - 1) d) := by
  have e : xs = xs.take (xs.length - 1) ++ [xs.getD (xs.length - 1) d] := by
    have h1 : xs.take (xs.length - 1 + 1) = xs := List.take_of_length_le (by omega)
    rw [List.take_add_one, List.getElem?_eq_getElem (by omega)] at h1
    rw [List.getD_eq_getElem?_getD, List.getElem?_eq_getElem (by omega)]
    exact h1.symm
  conv => lhs; rw [e]
  exact atI_last _ _
theorem atP {pv : List Nat} {i : Nat} (h : i < pv.length) : atI (pvI pv) (i : Int) = some ((pv.getD i 0 : Nat) : Int) := by
  rw [atI_D (d := 0) (by omega) (by rw [List.length_map]; omega), Int.toNat_natCast]
  congr 1
  rw [List.getD_eq_getElem?_getD, List.getD_eq_getElem?_getD, List.getElem?_map, List.getElem?_eq_getElem h]
  rfl
theorem bigMul {i j : Int} (h : i.natAbs < 2 ^ 2000) (g : j.natAbs < 2 ^ 100000) : IntMulOk i j := mulB (a := 100000) (Nat.lt_of_lt_of_le h (Nat.pow_le_pow_right (by decide) (by decide))) g (by decide) (by decide)
def eA (K : PySem.W.Frag) (a : EndA) : List SF := [(tRs K).is a.fd, (tRw K).is (pvI a.pv), tInt.is (a.col : Int)]
abbrev spEnd (K : PySem.W.Frag) (TB : List RS) : Sp := spN (fun _ : EndA => TB) (eA K) (tFs K) EndOk (fun a y => y = endR a.fd a.pv a.col)
abbrev sEnd : Stmt := topS 33
theorem scEnd : FnScope ["table", "pivots", "column", "whole", "at", "known", "numbers", "row", "number"] ["table", "pivots", "column"] (defScope sEnd) := ⟨rfl, rfl, rfl, by decide +kernel, rfl, by decide +kernel, by decide +kernel⟩
theorem ok_end {f c Pe : Addr} {fd : FuncData} {k : Nat} (F : Fun K "_ending" "_ending" sEnd f fd) (hc : fd.code = .ref c) (tb : GxR.TabB base mg c Pe) (hT : tab Pe ∈ TB) (c_fraction : Cal P w K mg base k "fraction" ["p", "q"] spFrac) (z_range : mg "range" = none) (z_reversed : mg "reversed" = none) (z_len : mg "len" = none) (z_sum : mg "sum" = none) : FnOk P w K mg base CX0 (k + 1) f fd ["table", "pivots", "column"] (spEnd K TB) := by
  refine ok_NCm F hc scEnd (fun _ => rfl) fun A outer s H0 S a Q E hr hp out hMS => ⟨_, (pss_cons (ps_if (pt_not (pt_truth (pv 0) (fun _ => rfl))) (pss_one (ps_ret (pe_lst pa_nil))) pss_nil)
      (pss_cons (ps_set (i := 3) scEnd.nd rfl (Or.inr rfl) (pe_ix ix_list (pe_ix ix_list (pv 0) (pe_un un_neg pe_int) (fun _ _ => rfl)) (pe_ix ix_list (pv 1) (pe_un un_neg pe_int) (fun _ _ => rfl)) (fun _ _ => rfl)))
      (pss_cons (ps_set (i := 6) scEnd.nd rfl (Or.inr rfl) (pe_op op_rep (pe_lst (pa_cons pe_int pa_nil)) (pe_callB call_len_seq (by rfl) z_len PySem.boot_len (pa_cons (pv 1) pa_nil))))
      (pss_cons (ps_for PassesOwn.never rfl (pi_revR (by rfl) z_reversed (prg_1 (by rfl) z_range (pe_callB call_len_seq (by rfl) z_len PySem.boot_len (pa_cons (pv 1) pa_nil)))) (pg_name (i := 4) scEnd.nd rfl (Or.inl rfl)) (pss_cons (ps_set (i := 7) scEnd.nd rfl (Or.inr rfl) (pe_ix ix_list (pv 0) (pv 4) (fun _ _ => rfl)))
      (pss_cons (ps_set (i := 5) scEnd.nd rfl (Or.inl rfl) (pe_gxSum (g := gName 0) (tt := tYes) (own := ["k"]) (fr := [("row", 7), ("numbers", 6), ("pivots", 1)]) hr (by rfl) z_sum tb rfl (gxS_by (N := ["table", "pivots", "column", "whole", "at", "known", "numbers", "row", "number"]) (sc := defScope sEnd) (by decide +kernel)) rfl (pi_range2 (by rfl) z_range (pa_cons (pe_op op_add (pv 4) pe_int) (pa_cons (pe_callB call_len_seq (by rfl) z_len PySem.boot_len (pa_cons (pv 1) pa_nil)) pa_nil))) (fun _ => rfl) (fun _ _ _ _ _ _ => (pg_name (i := 0) (show (["k", "row", "numbers", "pivots"] : List Str).Nodup by decide +kernel) rfl (Or.inl rfl) (Or.inr rfl))) (fun _ _ _ _ _ _ => pts_nil) (fun _ _ _ _ _ _ => (pe_op op_mulA (pe_ix (ix_lstK (K := K) rfl) (pv 1) (pe_ix (ix_lstK (K := K) rfl) (pv 3) (pv 0) (fun _ _ => rfl)) (fun _ _ => rfl)) (pe_ix (ix_lstK (K := K) rfl) (pv 2) (pv 0) (fun _ _ => rfl))))))
      (pss_one (ps_asg (pe_op op_fdivA (pe_op op_sub (pe_op op_mulA (pv 3) (pe_ix ix_list (pv 7) (pv 2) (fun _ _ => rfl))) (pv 5)) (pe_ix ix_list (pv 7) (pe_ix ix_list (pv 1) (pv 4) (fun _ _ => rfl)) (fun _ _ => rfl))) (pg_sub (pv 6) (pv 4) set_list))))))
      (pss_one (ps_ret (pe_lc (own := [("number", 8)]) (g := gName 8) (tt := tYes) rfl scEnd.nd (pi_list (pv 6)) (blkOk_by (own := [("number", 8)]) (N := ["table", "pivots", "column", "whole", "at", "known", "numbers", "row", "number"]) (sc := defScope sEnd) (by decide +kernel)) (fun _ _ _ _ _ => (pg_name (i := 8) scEnd.nd rfl (Or.inl rfl))) (fun _ _ _ _ _ => pts_nil) (fun _ _ _ _ _ => (pe_cal c_fraction hr (by rfl) (pa_cons (pv 8) (pa_cons (pv 3) pa_nil))))))))))), ?_⟩
  obtain ⟨fs, pv, col⟩ := a
  have hp : EndOk ⟨fs, pv, col⟩ := hp
  have pl : pv.length = fs.length := hp.pl
  have l10 : fs.length ≤ 10 := hp.l10
  have cD : ∀ c ∈ TB, c ∈ TB := fun c m => m
  by_cases f0 : fs = []
  · subst f0
    refine go_ifr (b := true) (et_not (et_tru (ev_var (t := tRs K) (x := ([] : List IR)) rfl))) (fun _ => ?_) (fun h => by cases h)
    exact go_end (y := []) ev_nil out rfl rfl cD (fun a m => m)
  have fl : 0 < fs.length := List.length_pos_iff.mpr f0
  refine go_ifr (b := false) (et_is (et_not (et_tru (ev_var (t := tRs K) (x := fs) rfl))) (by cases fs with | nil => exact absurd rfl f0 | cons => rfl)) (fun h => by cases h) (fun _ => ?_)
  have m1 : fs.getD (fs.length - 1) [] ∈ fs := getD_mem (by omega)
  have m2 : pv.getD (pv.length - 1) 0 ∈ pv := getD_mem (by omega)
  have nz : lstG fs pv ≠ 0 := by
    refine hp.nz (fs.length - 1) _ _ ?_ ?_
    · show fs[fs.length - 1]? = _
      rw [List.getD_eq_getElem?_getD, List.getElem?_eq_getElem (show fs.length - 1 < fs.length by omega)]; rfl
    · show pv[fs.length - 1]? = _
      rw [← pl, List.getD_eq_getElem?_getD, List.getElem?_eq_getElem (show pv.length - 1 < pv.length by omega)]; rfl
  have a1 : atI fs (-1) = some (fs.getD (fs.length - 1) []) := atI_lst fl
  have a2 : atI (pvI pv) (-1) = some ((pv.getD (pv.length - 1) 0 : Nat) : Int) := by
    rw [atI_lst (d := 0) (by rw [List.length_map]; omega), List.length_map]
    congr 1
    rw [List.getD_eq_getElem?_getD, List.getD_eq_getElem?_getD, List.getElem?_map, List.getElem?_eq_getElem (show pv.length - 1 < pv.length by omega)]
    rfl
  refine go_set (t := tInt) (x := lstG fs pv) (ev_ixL (ev_ixL (ev_var rfl) (ev_neg ev_int) a1) (ev_ixL (ev_var rfl) (ev_neg ev_int) a2) (atG ((hp.wd _ m1).2 _ m2))) ?_
  have plI : (pvI pv).length = fs.length := by rw [List.length_map, pl]
  have k1 : -(2 ^ 63) ≤ ((pvI pv).length : Int) := by omega
  have k2 : ((pvI pv).length : Int) < 2 ^ 63 := by omega
  have k3 : (((pvI pv).length : Int)).toNat ≤ sizeLine := Nat.le_trans (by omega) (show 10 ≤ sizeLine by decide)
  refine go_newR (K := K) (t := tInt) (x := 0) (ev_lst (el_cons ev_int el_nil) (by show 1 ≤ sizeLine; decide)) (ev_len (ev_var rfl)) k1 k2 k3 fun p np => ?_
  let N := endN fs pv col
  have Nl : N.length = fs.length := by show (nmb _ _ _).length = _; rw [nmb_len, List.length_zip]; omega
  have s0 : List.replicate (((pvI pv).length : Int)).toNat (0 : Int) = numS fs.length 0 N := by
    unfold numS
    rw [Int.toNat_natCast, plI, Nat.sub_zero, List.drop_of_length_le (by omega), List.append_nil]
  rw [s0]
  refine go_seq (go_for (ι := Unit) (iv_revRange (n := fs.length) (ev_is (ev_len (ev_var rfl)) (by rw [plI])) (by omega)) tgt_name (fun k _ => (cell p (cLs tInt (numS fs.length k N)) :: TB, [some ((tRs K).is fs), some ((tRw K).is (pvI pv)), some (tInt.is (col : Int)), some (tInt.is (lstG fs pv)), none, none, some (tRf.is p), none, none])) (fun _ _ => True) () trivial (fun σ H o => o.sb (by walk_at "sb")) (fun k _ x f hx _ => ?_) (fun _ _ σ H o => ?_))
  · rw [List.getElem?_map] at hx
    obtain ⟨at_, ha, rfl⟩ := Option.map_eq_some_iff.mp hx
    have kl : k < fs.length := by have := (List.getElem?_eq_some_iff.mp ha).1; rw [List.length_reverse, List.length_range] at this; exact this
    obtain rfl : at_ = fs.length - 1 - k := by
      rw [List.getElem?_reverse (by rw [List.length_range]; exact kl), List.length_range, List.getElem?_range (by omega)] at ha
      exact (Option.some.inj ha).symm
    let i := fs.length - 1 - k
    have il : i < fs.length := by show fs.length - 1 - k < _; omega
    have rm : fs.getD i [] ∈ fs := getD_mem il
    have hi : fs[i]? = some (fs.getD i []) := by rw [List.getD_eq_getElem?_getD, List.getElem?_eq_getElem il]; rfl
    have hj : pv[i]? = some (pv.getD i 0) := by rw [List.getD_eq_getElem?_getD, List.getElem?_eq_getElem (show i < pv.length by omega)]; rfl
    have pm : pv.getD i 0 ∈ pv := getD_mem (by omega)
    refine go_set (t := tRw K) (x := fs.getD i []) (ev_ixL (ev_var rfl) (ev_var rfl) (by rw [atI_D (d := []) (by omega) (by omega), Int.toNat_natCast])) ?_
    have hz : (fs.zip pv)[i]? = some (fs.getD i [], pv.getD i 0) := by rw [List.getElem?_zip_eq_some]; exact ⟨hi, hj⟩
    have Ni : N[i]? = some (Int.fdiv (lstG fs pv * gI (fs.getD i []) col - Fs ((pv.drop (i + 1)).zip (N.drop (i + 1))) (gI (fs.getD i []))) (gI (fs.getD i []) (pv.getD i 0))) := by
      have e := nmb_at (w := lstG fs pv) (c := col) hz
      have dz : ((fs.zip pv).drop (i + 1)).map (·.2) = pv.drop (i + 1) := by rw [List.map_drop, List.map_snd_zip (by omega)]
      rw [dz] at e
      exact e
    have sm : (((List.range ((((pvI pv).length : Int) - (((i : Nat) : Int) + 1)).toNat)).map fun (k : Nat) => ((i : Nat) : Int) + 1 + (k : Int)).map fun z : Int => gI (fs.getD i []) (pv.getD z.toNat 0) * (numS fs.length k N).getD z.toNat 0).sum = Fs ((pv.drop (i + 1)).zip (N.drop (i + 1))) (gI (fs.getD i [])) := by
      rw [Fs_sum _ _ _ (by rw [List.length_drop, List.length_drop]; omega), List.length_drop, List.map_map]
      have e1 : (((pvI pv).length : Int) - (((i : Nat) : Int) + 1)).toNat = pv.length - (i + 1) := by rw [plI]; omega
      rw [e1]
      congr 1
      refine List.map_congr_left fun j hj => ?_
      have hj := List.mem_range.mp hj
      have e2 : (((i : Nat) : Int) + 1 + (j : Int)).toNat = i + 1 + j := by omega
      show gI _ (pv.getD (((i : Nat) : Int) + 1 + (j : Int)).toNat 0) * (numS fs.length k N).getD (((i : Nat) : Int) + 1 + (j : Int)).toNat 0 = _
      rw [e2, numS_at (by show fs.length - k ≤ fs.length - 1 - k + 1 + j; omega)]
      rw [getD_dropS, getD_dropS]
    have tbN : tab Pe ∈ cell p (cLs tInt (numS fs.length k N)) :: TB := List.mem_cons_of_mem _ hT
    have q1 : -(2 ^ 62) ≤ ((i : Nat) : Int) + 1 := by omega
    have q2 : ((i : Nat) : Int) + 1 < 2 ^ 62 := by omega
    have q3 : -(2 ^ 62) ≤ ((pvI pv).length : Int) := by omega
    have q4 : ((pvI pv).length : Int) < 2 ^ 62 := by omega
    refine go_set (t := tInt) (x := Fs ((pv.drop (i + 1)).zip (N.drop (i + 1))) (gI (fs.getD i []))) (ev_is (ev_gxSum (f := fun z : Int => gI (fs.getD i []) (pv.getD z.toNat 0) * (numS fs.length k N).getD z.toNat 0) (capG := [some ((tRw K).is (fs.getD i [])), some (tRf.is p), some ((tRw K).is (pvI pv))]) tbN (iv_rangeB (ev_add (ev_var rfl) ev_int) (ev_len (ev_var rfl)) q1 q2 q3 q4) tgt_name (by simp) (cap3 rfl rfl rfl) (fun F z _ hz' => ?_)) sm) ?_
    · obtain ⟨j, hj', rfl⟩ := List.mem_map.mp hz'
      have hj' := List.mem_range.mp hj'
      have jl : i + 1 + j < fs.length := by omega
      have e2 : (((i : Nat) : Int) + 1 + (j : Int)) = ((i + 1 + j : Nat) : Int) := by omega
      rw [e2, Int.toNat_natCast]
      have pm2 : pv.getD (i + 1 + j) 0 ∈ pv := getD_mem (by omega)
      have nb : ((numS fs.length k N).getD (i + 1 + j) 0).natAbs < 2 ^ 100000 := by
        rw [numS_at (by show fs.length - k ≤ fs.length - 1 - k + 1 + j; omega)]
        exact hp.nb _ (getD_mem (by rw [Nl]; exact jl))
      refine ev_mul (ev_ixL (ev_var rfl) (ev_ixL (ev_var rfl) (ev_var rfl) (atP (by omega))) (atG ((hp.wd _ rm).2 _ pm2))) (ev_ixK (p := p) (xs := numS fs.length k N) rfl (List.mem_cons_self ..) (ev_var rfl) (by rw [atI_D (d := 0) (by omega) (by rw [numS_len Nl]; omega), Int.toNat_natCast])) (bigMul (hp.rb _ rm _) nb)
    · refine go_setLs (us := fun D σ H => D.nx σ H) (p := p) (xs := numS fs.length k N) (R := TB) (j := i) (x := Int.fdiv (lstG fs pv * gI (fs.getD i []) col - Fs ((pv.drop (i + 1)).zip (N.drop (i + 1))) (gI (fs.getD i []))) (gI (fs.getD i []) (pv.getD i 0))) rfl (List.Perm.refl _) (ev_fdiv (ev_sub (ev_mul (ev_var rfl) (ev_ixL (ev_var rfl) (ev_var rfl) (atG (hp.wd _ rm).1)) (mul2k (hp.rb _ m1 _) (hp.rb _ rm _))) (ev_var rfl)) (ev_ixL (ev_var rfl) (ev_ixL (ev_var rfl) (ev_var rfl) (atP (by omega))) (atG ((hp.wd _ rm).2 _ pm))) ⟨hp.nz i _ _ hi hj, Nat.lt_of_lt_of_le (hp.rb _ rm _) (Nat.pow_le_pow_right (by decide) (by decide))⟩) (ev_var rfl) (by unfold ixN; rw [numS_len Nl, if_pos (by omega), if_pos (by omega), Int.toNat_natCast]) fun σ H o => ⟨(), trivial, ?_⟩
      rw [numS_set Nl kl Ni] at o
      exact o.sb (by walk_at "sb")
  · rw [List.length_map, List.length_reverse, List.length_range] at o
    have e0 : numS fs.length fs.length N = N := by unfold numS; rw [Nat.sub_self]; rfl
    rw [e0] at o
    dsimp only at o ⊢
    refine go_at o (go_frz (K := K) (i := 6) (t := tInt) (xs := N) rfl hMS np hMS ?_)
    have ee : endR fs pv col = N.map fun z => Rat.divInt z (lstG fs pv) := by unfold endR; rw [if_neg f0]
    refine go_end (y := endR fs pv col) (ev_is (ev_lcm (K := K) (u := tFr K) (f := fun z : Int => Rat.divInt z (lstG fs pv)) (iv_list (ev_var rfl)) tgt_name (by simp) (Nat.lt_of_le_of_lt (by rw [Nl]; exact l10) (show 10 < sizeLine by decide)) fun D φ F z _ _ => ?_) ee.symm) out rfl rfl cD (fun a m => m)
    exact ev_frc (ev_var rfl) (ev_var rfl) nz (Nat.lt_of_lt_of_le (hp.rb _ m1 _) (Nat.pow_le_pow_right (by decide) (by decide)))
structure SprA where
  v : RR
  pv : List Nat
  n : Nat
structure SprOk (a : SprA) : Prop where
  n10 : a.n ≤ 10
  lt : ∀ p ∈ a.pv, p < a.n
def sA (K : PySem.W.Frag) (a : SprA) : List SF := [(tFs K).is a.v, (tRw K).is (pvI a.pv), tInt.is (a.n : Int)]
abbrev spSpr (K : PySem.W.Frag) : Sp := spNw (sA K) (tFr K) SprOk (fun a => sprD a.v a.pv a.n)
def sprK (v : RR) (pv : List Nat) (n k : Nat) : RR := ((v.zip pv).take k).foldl (fun a p => a.set p.2 p.1) (List.replicate n 0)
theorem sprK_succ {v : RR} {pv : List Nat} {n k : Nat} {p : Rat × Nat} (h : (v.zip pv)[k]? = some p) : sprK v pv n (k + 1) = (sprK v pv n k).set p.2 p.1 := by
  unfold sprK
  rw [take_snoc h, List.foldl_append]
  rfl
abbrev sSpr : Stmt := topS 34
theorem scSpr : FnScope ["values", "pivots", "columns", "spread", "value", "pivot"] ["values", "pivots", "columns"] (defScope sSpr) := ⟨rfl, rfl, rfl, by decide +kernel, rfl, by decide +kernel, by decide +kernel⟩
theorem ok_spr {f zZ : Addr} {fd : FuncData} {k : Nat} (F : Fun K "_spread" "_spread" sSpr f fd) (z_zip : mg "zip" = none) (m_ZERO : mg "ZERO" = some (.ref zZ)) (hZ : ∀ H, SqT K H zZ [.int 0, .int 1]) : FnOk P w K mg base CX0 (k + 1) f fd ["values", "pivots", "columns"] (spSpr K) := by
  refine ok_Nw F scSpr (fun _ => rfl) fun cdv A outer s H0 S a Q E hr hp out => ⟨_, (pss_cons (ps_set (i := 3) scSpr.nd rfl (Or.inl rfl) (pe_op op_rep (pe_lst (pa_cons (pe_glob (v := .ref zZ) (by rfl) m_ZERO rfl) pa_nil)) (pv 2)))
      (pss_cons (ps_for PassesOwn.never rfl (pi_zip (by rfl) z_zip (pa_cons (pv 0) (pa_cons (pv 1) pa_nil))) (pg_tup rfl (pgs_cons (pg_name (i := 4) scSpr.nd rfl (Or.inl rfl)) (pgs_cons (pg_name (i := 5) scSpr.nd rfl (Or.inl rfl)) pgs_nil))) (pss_one (ps_asg (pv 4) (pg_sub (pv 3) (pv 5) set_list))))
      (pss_one (ps_ret (pv 3))))), ?_⟩
  obtain ⟨v, pv, n⟩ := a
  have n10 : n ≤ 10 := hp.n10
  have hlt : ∀ p ∈ pv, p < n := hp.lt
  have k1 : -(2 ^ 63) ≤ (n : Int) := by omega
  have k2 : (n : Int) < 2 ^ 63 := by omega
  have k3 : ((n : Int)).toNat ≤ sizeLine := Nat.le_trans (by omega) (show 10 ≤ sizeLine by decide)
  refine go_newR (K := K) (t := tFr K) (x := 0) (ev_lst (el_cons (ev_k fun H => ⟨zZ, rfl, hZ H⟩) el_nil) (by show 1 ≤ sizeLine; decide)) (ev_var rfl) k1 k2 k3 fun p np => ?_
  rw [Int.toNat_natCast]
  refine go_seq (go_for (ι := Unit) (iv_zip (ev_var rfl) (ev_var rfl)) tgt_pair (fun k _ => ([cell p (cLs (tFr K) (sprK v pv n k))], [some ((tFs K).is v), some ((tRw K).is (pvI pv)), some (tInt.is (n : Int)), some (tRf.is p), none, none])) (fun _ _ => True) () trivial (fun σ H o => o.sb (by walk_at "sb")) (fun k _ x f hx _ => ?_) (fun _ _ σ H o => ?_))
  · have hz : ∃ q, pv[k]? = some q ∧ x = (x.1, (q : Int)) ∧ (v.zip pv)[k]? = some (x.1, q) := by
      rw [List.getElem?_zip_eq_some] at hx
      obtain ⟨h1, h2⟩ := hx
      rw [List.getElem?_map] at h2
      obtain ⟨q, hq, e⟩ := Option.map_eq_some_iff.mp h2
      exact ⟨q, hq, by rw [e], by rw [List.getElem?_zip_eq_some]; exact ⟨h1, hq⟩⟩
    obtain ⟨q, hq, ex, hz⟩ := hz
    obtain ⟨r, z⟩ := x
    obtain rfl : z = (q : Int) := (Prod.mk.inj ex).2
    have ql := hlt q (List.mem_of_getElem? hq)
    have kl : (sprK v pv n k).length = n := by unfold sprK; rw [fold_len, List.length_replicate]
    refine go_setLs (us := fun D σ H => D.nx σ H) (p := p) (xs := sprK v pv n k) (R := []) (j := q) (x := r) rfl (List.Perm.refl _) (ev_var rfl) (ev_var rfl) (by unfold ixN; rw [kl, if_pos (by omega), if_pos (by omega), Int.toNat_natCast]) fun σ H o => ⟨(), trivial, ?_⟩
    rw [← sprK_succ hz] at o
    exact o.sb (by walk_at "sb")
  · have e0 : sprK v pv n (v.zip (pvI pv)).length = sprD v pv n := by
      unfold sprK sprD
      rw [List.take_of_length_le (by rw [List.length_zip, List.length_zip, List.length_map]; exact Nat.le_refl _)]
    rw [e0] at o
    dsimp only at o ⊢
    exact go_at o (go_endNw (i := 3) (t := tFr K) (xs := sprD v pv n) rfl rfl out)
abbrev KerA := EndA
structure KerOk (a : KerA) : Prop where
  en : ∀ c, c < a.col → EndOk ⟨a.fd, a.pv, c⟩
  n10 : a.col ≤ 10
  lt : ∀ p ∈ a.pv, p < a.col
abbrev spKer (K : PySem.W.Frag) (TB : List RS) : Sp := spN (fun _ : KerA => TB) (eA K) (tOpt (tFs K)) KerOk (fun a y => y = kerR a.fd a.pv a.col)
abbrev sKer : Stmt := topS 35
theorem scKer : FnScope ["table", "pivots", "columns", "column", "factors", "values", "value"] ["table", "pivots", "columns"] (defScope sKer) := ⟨rfl, rfl, rfl, by decide +kernel, rfl, by decide +kernel, by decide +kernel⟩
theorem ok_ker {f zO : Addr} {fd : FuncData} {k : Nat} (F : Fun K "_first_kernel" "_first_kernel" sKer f fd) (c_ending : Cal P w K mg base k "_ending" ["table", "pivots", "column"] (spEnd K TB)) (c_opposite : Cal P w K mg base k "opposite" ["a"] (spOppY K)) (c_spread : Cal P w K mg base k "_spread" ["values", "pivots", "columns"] (spSpr K)) (z_range : mg "range" = none) (m_ONE : mg "ONE" = some (.ref zO)) (hO : ∀ H, SqT K H zO [.int 1, .int 1]) : FnOk P w K mg base CX0 (k + 1) f fd ["table", "pivots", "columns"] (spKer K TB) := by
  refine ok_Nm F scKer (fun _ => rfl) fun cdv A outer s H0 S a Q E hr hp out hMS => ⟨_, (pss_cons (ps_for PassesOwn.never rfl (pi_range1 rfl z_range (pa_cons (pv 2) pa_nil)) (pg_name (i := 3) scKer.nd rfl (Or.inl rfl)) (pss_one (ps_if (pt_cmpR op_notIn_seq (pv 3) (pv 1) (by rfl)) (pss_cons (ps_setLc (i := 4) (own := [("value", 6)]) (g := gName 6) (tt := tYes) rfl scKer.nd rfl rfl (sw_true rfl rfl rfl (by decide +kernel)) (pi_list (pe_cal c_ending hr (by rfl) (pa_cons (pv 0) (pa_cons (pv 1) (pa_cons (pv 3) pa_nil))))) (blkOk_by (own := [("value", 6)]) (N := ["table", "pivots", "columns", "column", "factors", "values", "value"]) (sc := defScope sKer) (by decide +kernel)) (fun _ _ _ _ _ => (pg_name (i := 6) scKer.nd rfl (Or.inl rfl))) (fun _ _ _ _ _ => pts_nil) (fun _ _ _ _ _ => (pe_cal c_opposite hr (by rfl) (pa_cons (pv 6) pa_nil))))
      (pss_cons (ps_set (i := 5) scKer.nd rfl (Or.inl rfl) (pe_cal c_spread hr (by rfl) (pa_cons (pv 4) (pa_cons (pv 1) (pa_cons (pv 2) pa_nil)))))
      (pss_cons (ps_asg (pe_glob (v := .ref zO) (by rfl) m_ONE rfl) (pg_sub (pv 5) (pv 3) set_list))
      (pss_one (ps_ret (pv 5)))))) pss_nil)))
      (pss_one (ps_ret pe_non))), ?_⟩
  obtain ⟨fs, pv, n⟩ := a
  have hp : KerOk ⟨fs, pv, n⟩ := hp
  have n10 : n ≤ 10 := hp.n10
  have cD : ∀ c ∈ TB, c ∈ TB := fun c m => m
  refine go_seq (go_for (ι := Unit) (iv_range1 (ev_var rfl) (by show -(2 ^ 62) ≤ ((n : Nat) : Int); omega) (by show ((n : Nat) : Int) < 2 ^ 62; omega)) tgt_name (fun k _ => (TB, [some ((tRs K).is fs), some ((tRw K).is (pvI pv)), some (tInt.is (n : Int)), none, none, none, none])) (fun k _ => ∀ c, c < k → c ∈ pv) () (fun c h => by omega) (fun σ H o => o.sb (by walk_at "sb")) (fun k _ x f hx hk => ?_) (fun _ hk σ H o => ?_))
  · rw [List.getElem?_map, Int.toNat_natCast] at hx
    obtain ⟨k', hk', rfl⟩ := Option.map_eq_some_iff.mp hx
    have kn : k < n := by have := (List.getElem?_eq_some_iff.mp hk').1; rw [List.length_range] at this; exact this
    obtain rfl : k = k' := by rw [List.getElem?_range kn] at hk'; exact Option.some.inj hk'
    refine go_if (b := decide (k ∉ pv)) (et_is (et_of (ev_niI (ev_var rfl) (ev_var rfl))) (by simp only [pvI_mem, decide_not])) (fun h => ?_) (fun h => go_next fun σ H o => ⟨(), fun c hc => ?_, o.sb (by walk_at "sb")⟩)
    · have h : k ∉ pv := of_decide_eq_true h
      have ke : kerR fs pv n = some ((sprD ((endR fs pv k).map fun r => -r) pv n).set k 1) := by
        unfold kerR
        have : (List.range n).find? (fun c => decide (c ∉ pv)) = some k := by
          rw [List.find?_eq_some_iff_getElem]
          refine ⟨by simpa using h, k, by rw [List.length_range]; exact kn, by simp, fun j hj => ?_⟩
          rw [List.getElem_range]
          simpa using hk j hj
        rw [this]
      refine go_set (t := tFs K) (x := (endR fs pv k).map fun r => -r) (ev_lcm (K := K) (u := tFr K) (f := fun r : Rat => -r) (iv_list ((evx_call (z := (⟨fs, pv, k⟩ : EndA)) (ea_cons (ev_var rfl) (ea_cons (ev_var rfl) (ea_cons (ev_var rfl) ea_nil))) (hp.en k kn) (List.Sublist.refl _)).ev)) tgt_name (by simp) (Nat.lt_of_le_of_lt ?_ (show 10 < sizeLine by decide)) fun D φ F r _ _ => ev_call (z := r) (ea_cons (ev_var rfl) ea_nil) trivial) ?_
      · have := (hp.en k kn).l10
        have p2 := (hp.en k kn).pl
        unfold endR endN
        split
        · exact Nat.zero_le _
        · rw [List.length_map, nmb_len, List.length_zip]
          show min fs.length pv.length ≤ 10
          have this : fs.length ≤ 10 := this
          omega
      refine go_nw (t := tFr K) (⟨(endR fs pv k).map fun r => -r, pv, n⟩ : SprA) (ea_cons (ev_var rfl) (ea_cons (ev_var rfl) (ea_cons (ev_var rfl) ea_nil))) ⟨n10, hp.lt⟩ fun p np => ?_
      refine go_setLs (p := p) (xs := sprD ((endR fs pv k).map fun r => -r) pv n) (R := TB) (j := k) (x := (1 : Rat)) rfl (List.Perm.refl _) (ev_k fun H => ⟨zO, rfl, hO H⟩) (ev_var rfl) (by unfold ixN; rw [sprD_len, if_pos (by omega), if_pos (by omega), Int.toNat_natCast]) ?_
      refine go_frz (K := K) (i := 5) (t := tFr K) (xs := (sprD ((endR fs pv k).map fun r => -r) pv n).set k 1) rfl hMS np hMS ?_
      exact go_end (y := some ((sprD ((endR fs pv k).map fun r => -r) pv n).set k 1)) (ev_someL (ev_var rfl)) out ke.symm rfl cD (fun a m => m)
    · rcases Nat.lt_succ_iff_lt_or_eq.mp hc with z | rfl
      · exact hk c z
      · have := of_decide_eq_false h
        exact Classical.byContradiction this
  · have hk : ∀ c, c < ((List.range ((n : Int)).toNat).map fun (i : Nat) => (i : Int)).length → c ∈ pv := hk
    rw [List.length_map, List.length_range, Int.toNat_natCast] at hk
    dsimp only at o ⊢
    have ke : kerR fs pv n = none := by
      unfold kerR
      have : (List.range n).find? (fun c => decide (c ∉ pv)) = none := by
        rw [List.find?_eq_none]
        intro c hc
        simpa using hk c (List.mem_range.mp hc)
      rw [this]
    exact go_at o (go_end (y := none) ev_nonO out ke.symm rfl cD (fun a m => m))
end
end
end Cs
set_option maxHeartbeats 4000000
namespace Cs
open PySem PySem.Spec PyProof.Rows L2
local macro_rules | `(tactic| walk_at "rd") => `(tactic| (first
  | (refine ⟨_, rfl, ?_⟩)
  | (refine ⟨_, _, rfl, rfl, ?_⟩)
  | (refine .inl ⟨_, rfl, ?_⟩)
  | (refine .inr ⟨_, rfl, ?_⟩)
  | (refine ⟨_, _, _, _, rfl, rfl, SqL.of upd_same, rfl, ?_⟩)
  | (refine ⟨_, _, _, _, rfl, rfl, upd_same, rfl, ?_⟩)
  | (refine ⟨_, ?xs, _, ?v, rfl, rfl, ?h, ?x, ?_⟩; (case h => first | exact SqL.of (by assumption) | exact SqT.of (by assumption) | assumption); (case x => first | rfl | exact atI_nat (j := 0) rfl | exact atI_nat (j := 1) rfl))))
local macro_rules | `(tactic| walk_at "isi") => `(tactic| (first
  | (refine ⟨_, _, _, _, _, rfl, .ty _, .base (.int _), kit_ty kit_it, ?_⟩)
  | (refine ⟨_, _, _, _, _, rfl, .ty _, .base (.int _), kit_ty kit_ib, ?_⟩)
  | (refine ⟨_, _, _, _, _, rfl, .ty _, .base (.int _), kit_ty kit_ii, ?_⟩)
  | (refine ⟨_, _, _, _, _, rfl, .ty _, .base (.bl _), kit_ty kit_bt, ?_⟩)
  | (refine ⟨_, _, _, _, _, rfl, .ty _, .base (.bl _), kit_ty kit_bb, ?_⟩)
  | (refine ⟨_, _, _, _, _, rfl, .ty _, .base (.bl _), kit_ty kit_bi, ?_⟩)))
local macro_rules | `(tactic| walk_at "ev") => `(tactic| (first
  | exact ev_var rfl
  | exact ev_int
  | exact ev_str
  | exact ev_bl
  | exact ev_non
  | (refine ev_add ?_ ?_ <;> walk_at "ev")
  | (refine ev_sub ?_ ?_ <;> walk_at "ev")
  | (refine ev_mul ?_ ?_ ?_ <;> (try walk_at "ev"))
  | (refine ev_neg ?_ <;> walk_at "ev")
  | (refine ev_num ?_ <;> walk_at "ev")
  | (refine ev_den ?_ <;> walk_at "ev")
  | (refine ev_cmp ?_ ?_ <;> walk_at "ev")
  | (refine ev_eqI ?_ ?_ <;> walk_at "ev")
  | (refine ev_eqS ?_ ?_ <;> walk_at "ev")
  | (refine ev_neI ?_ ?_ <;> walk_at "ev")
  | (refine ev_neS ?_ ?_ <;> walk_at "ev")
  | (refine ev_inS ?_ ?_ <;> walk_at "ev")
  | (refine ev_niS ?_ ?_ <;> walk_at "ev")
  | (refine ev_len ?_ <;> walk_at "ev")
  | (refine ev_list ?_ <;> walk_at "ev")
  | (refine ev_listRev ?_ <;> walk_at "ev")
  | (refine ev_int1 ?_ <;> walk_at "ev")))
local macro_rules | `(tactic| walk_at "ea") => `(tactic| (first
  | exact ea_nil
  | (refine ea_cons ?_ ?_ <;> (first | walk_at "ev" | walk_at "ea" | skip))))
local macro_rules | `(tactic| walk_at "sb") => `(tactic| (first | exact True.intro | (refine And.intro rfl ?_; walk_at "sb")))
local macro_rules | `(tactic| walk_at "subt") => `(tactic| repeat (first | exact List.nil_sublist _ | apply List.Sublist.cons₂ | apply List.Sublist.cons))
section
variable {P : Program} {w : World} {K : PySem.W.Frag} {mg : Str → Option Value} {base : Heap}
/-! ### systems are solved -/
section
variable {TB : List RS}
theorem cDr : ∀ c ∈ TB, c ∈ TB := fun c m => m
theorem sDr {S : List Addr} : ∀ a, a ∈ S → a ∈ S := fun a m => m
abbrev spChk (K : PySem.W.Frag) (TB : List RS) : Sp := spN (fun _ : List RR × Nat => TB) (fun a => [(tFss K).is a.1, tInt.is (a.2 : Int)]) tNn (fun a => ∀ r ∈ a.1, r.length = a.2) (fun _ _ => True)
abbrev sChk : Stmt := topS 25
theorem scChk : FnScope ["rows", "columns"] ["rows", "columns"] (defScope sChk) := ⟨rfl, rfl, rfl, by decide +kernel, rfl, by decide +kernel, by decide +kernel⟩
theorem ok_chk {f c Pe : Addr} {fd : FuncData} {k : Nat} (F : Fun K "_check_lengths" "_check_lengths" sChk f fd) (hc : fd.code = .ref c) (tb : GxR.TabB base mg c Pe) (hT : tab Pe ∈ TB) (z_any : mg "any" = none) (z_len : mg "len" = none) : FnOk P w K mg base CX0 (k + 1) f fd ["rows", "columns"] (spChk K TB) := by
  refine ok_NCm F hc scChk (fun _ => rfl) fun A outer s H0 S a Q E hr hp out hMS => ⟨_, (pss_one (ps_if (pt_val (pe_gxAny (g := gName 0) (tt := tYes) (own := ["row"]) (fr := [("columns", 1)]) hr (by rfl) z_any tb rfl (gxS_by (N := ["rows", "columns"]) (sc := defScope sChk) (by decide +kernel)) rfl (pi_list (pv 0)) (fun _ => rfl) (fun _ _ _ _ _ _ => (pg_name (i := 0) (show (["row", "columns"] : List Str).Nodup by decide +kernel) rfl (Or.inl rfl) (Or.inr rfl))) (fun _ _ _ _ _ _ => pts_nil) (fun _ _ _ _ _ _ => (pe_cmpR op_ne (pe_callB (call_len_seqK (K := K) rfl) (by rfl) z_len PySem.boot_len (pa_cons (pv 0) pa_nil)) (pv 1) (nomark _))))) (pss_one ps_never) pss_nil)), ?_⟩
  obtain ⟨rows, n⟩ := a
  have hp : ∀ r ∈ rows, r.length = n := hp
  have e0 : (rows.any fun r => !decide (((r.length : Nat) : Int) = (n : Int))) = false := by
    rw [List.any_eq_false]
    intro r m
    rw [hp r m]
    simp
  refine go_if (b := false) (et_is (et_of (ev_gxAny (f := fun r : RR => !decide (((r.length : Nat) : Int) = (n : Int))) (capG := [some (tInt.is (n : Int))]) hT (iv_list (ev_var rfl)) tgt_name (by simp) (cap1 rfl) (fun F r _ _ => ev_neI (ev_len (ev_var rfl)) (ev_var rfl)))) e0) (fun h => by cases h) (fun _ => go_next fun σ H o => out .non () H trivial o.bt (fun a m => o.al a (o.ms a m)) (o.rsAt cDr sDr) rfl)
abbrev spCsz (K : PySem.W.Frag) : Sp := spP (fun a : List RR × Nat => [(tFss K).is a.1, tInt.is (a.2 : Int)]) tNn (fun a => a.1.length ≤ 60 ∧ a.2 ≤ 60) (fun _ => ())
abbrev sCsz : Stmt := topS 26
theorem scCsz : FnScope ["rows", "columns"] ["rows", "columns"] (defScope sCsz) := ⟨rfl, rfl, rfl, by decide +kernel, rfl, by decide +kernel, by decide +kernel⟩
theorem ok_csz {f : Addr} {fd : FuncData} {k : Nat} {tM : Tok} (F : Fun K "_check_size" "_check_size" sCsz f fd) (z_len : mg "len" = none) (m_MOST : mg "MOST" = some (.int 60 tM)) : FnOk P w K mg base CX0 (k + 1) f fd ["rows", "columns"] (spCsz K) := by
  refine ok_P F scCsz (fun _ => rfl) fun cdv A outer s H0 S a Q E hr hp out => ⟨_, (pss_one (ps_if (PW.pt (pw_or (pt_cmpR op_gt (pe_callB call_len_seq (by rfl) z_len PySem.boot_len (pa_cons (pv 0) pa_nil)) (pe_glob (v := .int 60) (by rfl) m_MOST ⟨_, rfl⟩) (nomark _)) (pw_or1 (pt_cmpR op_gt (pv 1) (pe_glob (v := .int 60) (by rfl) m_MOST ⟨_, rfl⟩) (nomark _))))) (pss_one ps_never) pss_nil)), ?_⟩
  obtain ⟨h1, h2⟩ := hp
  have g1 : a.1.length ≤ 60 := h1
  have g2 : a.2 ≤ 60 := h2
  refine go_if (b := false) (et_is (et_or (et_cmp (ev_len (ev_var rfl)) ev_int) (fun _ => et_cmp (ev_var rfl) ev_int)) ?_) (fun h => by cases h) (fun _ => go_next fun σ H o => out .non () H rfl o.bt (fun a m => nomatch m) (fun r m => nomatch m) rfl)
  rw [Bool.or_eq_false_iff]
  exact ⟨decide_eq_false (by show ¬ (60 : Int) < ((a.1.length : Nat) : Int); omega), decide_eq_false (by show ¬ (60 : Int) < ((a.2 : Nat) : Int); omega)⟩
abbrev spBes (K : PySem.W.Frag) : Sp := spP (fun a : List RR × RR => [(tFss K).is a.1, (tFs K).is a.2]) (tRs K) (fun a => BesOk a.1 a.2) (fun a => besR a.1 a.2)
abbrev sBes : Stmt := topS 28
theorem scBes : FnScope ["rows", "sides", "row", "side"] ["rows", "sides"] (defScope sBes) := ⟨rfl, rfl, rfl, by decide +kernel, rfl, by decide +kernel, by decide +kernel⟩
theorem ok_bes {f : Addr} {fd : FuncData} {k : Nat} (F : Fun K "_beside" "_beside" sBes f fd) (c_whole : Cal P w K mg base k "_whole" ["row"] (spWhlS K)) (z_zip : mg "zip" = none) : FnOk P w K mg base CX0 (k + 1) f fd ["rows", "sides"] (spBes K) := by
  refine ok_P F scBes (fun _ => rfl) fun cdv A outer s H0 S a Q E hr hp out => ⟨_, (pss_one (ps_ret (pe_lc (own := [("row", 2), ("side", 3)]) (g := gTup K 2 (gCons (gName 2) (gCons (gName 3) gNil))) (tt := tYes) rfl scBes.nd (pi_zip (by rfl) z_zip (pa_cons (pv 0) (pa_cons (pv 1) pa_nil))) (blkOk_by (own := [("row", 2), ("side", 3)]) (N := ["rows", "sides", "row", "side"]) (sc := defScope sBes) (by decide +kernel)) (fun _ _ _ _ _ => (pg_tup rfl (pgs_cons (pg_name (i := 2) scBes.nd rfl (Or.inl rfl)) (pgs_cons (pg_name (i := 3) scBes.nd rfl (Or.inl rfl)) pgs_nil)))) (fun _ _ _ _ _ => pts_nil) (fun _ _ _ _ _ => (pe_cal c_whole hr (by rfl) (pa_cons (pe_lst (pa_starK (K := K) rfl (pv 2) (pa_cons (pv 3) pa_nil))) pa_nil)))))), ?_⟩
  have hp : BesOk a.1 a.2 := hp
  have l10 := hp.len
  refine go_end (y := besR a.1 a.2) (ev_lcm (K := K) (u := tRw K) (f := fun p : RR × Rat => whR (p.1 ++ [p.2])) (iv_zip (ev_var rfl) (ev_var rfl)) tgt_pair (by simp) (Nat.lt_of_le_of_lt (by rw [List.length_zip]; omega) (show 10 < sizeLine by decide)) fun D φ F p _ hm => ?_) out
  have wk := hp.wh p hm
  exact ev_call (z := p.1 ++ [p.2]) (ea_cons (ev_lst (el_star (ev_var rfl) (el_cons (ev_var rfl) el_nil)) (Nat.le_trans wk.len (by decide))) ea_nil) wk
abbrev spTrn (K : PySem.W.Frag) : Sp := spP (fun a : List RR × Nat => [(tFss K).is a.1, tInt.is (a.2 : Int)]) (tFss K) (fun a => a.1.length ≤ 10 ∧ a.2 ≤ 10 ∧ ∀ r ∈ a.1, r.length = a.2) (fun a => turnR a.1 a.2)
abbrev sTrn : Stmt := topS 27
theorem scTrn : FnScope ["rows", "columns", "column", "row"] ["rows", "columns"] (defScope sTrn) := ⟨rfl, rfl, rfl, by decide +kernel, rfl, by decide +kernel, by decide +kernel⟩
theorem ok_trn {f : Addr} {fd : FuncData} {k : Nat} (F : Fun K "_turned" "_turned" sTrn f fd) (z_range : mg "range" = none) : FnOk P w K mg base CX0 (k + 1) f fd ["rows", "columns"] (spTrn K) := by
  refine ok_P F scTrn (fun _ => rfl) fun cdv A outer s H0 S a Q E hr hp out => ⟨_, (pss_one (ps_ret (pe_lc (own := [("column", 2)]) (g := gName 2) (tt := tYes) rfl scTrn.nd (pi_range1 (by rfl) z_range (pa_cons (pv 1) pa_nil)) (blkOk_by (own := [("column", 2)]) (N := ["rows", "columns", "column", "row"]) (sc := defScope sTrn) (by decide +kernel)) (fun _ _ _ _ _ => (pg_name (i := 2) scTrn.nd rfl (Or.inr rfl))) (fun _ _ _ _ _ => pts_nil) (fun _ _ _ _ _ => (pe_lc (own := [("row", 3)]) (g := gName 3) (tt := tYes) rfl scTrn.nd (pi_listK (K := K) rfl (pv 0)) (blkOk_by (own := [("row", 3)]) (N := ["rows", "columns", "column", "row"]) (sc := { kind := ScopeKind.function, names := [((".0" : Str), NameKind.local), (("column" : Str), NameKind.cell), (("rows" : Str), NameKind.cell)], isGenerator := false, isCoroutine := false }) (by decide +kernel)) (fun _ _ _ _ _ => (pg_name (i := 3) scTrn.nd rfl (Or.inl rfl))) (fun _ _ _ _ _ => pts_nil) (fun _ _ _ _ _ => (pe_ix (ix_lstK (K := K) rfl) (pv 3) (pv 2) (fun _ _ => rfl)))))))), ?_⟩
  obtain ⟨rows, n⟩ := a
  obtain ⟨h1, h2, h3⟩ := hp
  have h1 : rows.length ≤ 10 := h1
  have h2 : n ≤ 10 := h2
  have h3 : ∀ r ∈ rows, r.length = n := h3
  have z1 : -(2 ^ 62) ≤ (n : Int) := by omega
  have z2 : (n : Int) < 2 ^ 62 := by omega
  have e : ((List.range ((n : Int)).toNat).map fun (i : Nat) => (i : Int)).map (fun c => rows.map fun r => r.getD c.toNat 0) = turnR rows n := by
    rw [List.map_map, Int.toNat_natCast]; rfl
  refine go_end (y := turnR rows n) (ev_is (ev_lcm (K := K) (u := tFs K) (f := fun c : Int => rows.map fun r => r.getD c.toNat 0) (iv_range1 (ev_var rfl) z1 z2) tgt_name (by simp) (Nat.lt_of_le_of_lt (by rw [List.length_map, List.length_range]; omega) (show 10 < sizeLine by decide)) fun D φ F c _ hm => ?_) e) out
  obtain ⟨j, hj, rfl⟩ := List.mem_map.mp hm
  have hj := List.mem_range.mp hj
  refine ev_lcm (K := K) (u := tFr K) (f := fun r : RR => r.getD ((j : Nat) : Int).toNat 0) (iv_list (ev_var rfl)) tgt_name (by simp) (Nat.lt_of_le_of_lt h1 (by decide)) fun D φ F r _ hm => ?_
  have rl := h3 r hm
  exact ev_ixL (ev_var rfl) (ev_var rfl) (atI_D (by omega) (by omega))
structure FcA where
  rows : List RR
  sides : RR
  n : Nat
def fA (K : PySem.W.Frag) (a : FcA) : List SF := [(tFss K).is a.rows, (tFs K).is a.sides, tInt.is (a.n : Int)]
abbrev spFac (K : PySem.W.Frag) (TB : List RS) : Sp := spN (fun _ : FcA => TB) (fA K) (tFs K) (fun a => FacOk a.rows a.sides a.n) (fun a y => y = facR a.rows a.sides a.n)
abbrev sFac : Stmt := topS 36
theorem scFac : FnScope ["rows", "sides", "columns", "asked", "wanted", "table", "pivots", "_"] ["rows", "sides", "columns"] (defScope sFac) := ⟨rfl, rfl, rfl, by decide +kernel, rfl, by decide +kernel, by decide +kernel⟩
theorem ok_fac {f zZ zO : Addr} {fd : FuncData} {k : Nat} (F : Fun K "_factors" "_factors" sFac f fd) (c_turned : Cal P w K mg base k "_turned" ["rows", "columns"] (spTrn K)) (c_beside : Cal P w K mg base k "_beside" ["rows", "sides"] (spBes K)) (c_echelon : Cal P w K mg base k "_echelon" ["table", "columns"] (spEch K)) (c_ending : Cal P w K mg base k "_ending" ["table", "pivots", "column"] (spEnd K TB)) (c_spread : Cal P w K mg base k "_spread" ["values", "pivots", "columns"] (spSpr K)) (z_len : mg "len" = none) (m_ZERO : mg "ZERO" = some (.ref zZ)) (hZ : ∀ H, SqT K H zZ [.int 0, .int 1]) (m_ONE : mg "ONE" = some (.ref zO)) (hO : ∀ H, SqT K H zO [.int 1, .int 1]) : FnOk P w K mg base CX0 (k + 1) f fd ["rows", "sides", "columns"] (spFac K TB) := by
  refine ok_Nm F scFac (fun _ => rfl) fun cdv A outer s H0 S a Q E hr hp out hMS => ⟨_, (pss_cons (ps_set (i := 3) scFac.nd rfl (Or.inl rfl) (pe_op op_cat (pe_cal c_turned hr (by rfl) (pa_cons (pv 0) (pa_cons (pv 2) pa_nil))) (pe_lst (pa_cons (pv 1) pa_nil))))
      (pss_cons (ps_set (i := 4) scFac.nd rfl (Or.inl rfl) (pe_op op_cat (pe_op op_rep (pe_lst (pa_cons (pe_glob (v := .ref zZ) (by rfl) m_ZERO rfl) pa_nil)) (pv 2)) (pe_lst (pa_cons (pe_glob (v := .ref zO) (by rfl) m_ONE rfl) pa_nil))))
      (pss_cons (ps_asg (pe_cal c_echelon hr (by rfl) (pa_cons (pe_cal c_beside hr (by rfl) (pa_cons (pv 3) (pa_cons (pv 4) pa_nil))) (pa_cons (pe_callB call_len_seq (by rfl) z_len PySem.boot_len (pa_cons (pv 0) pa_nil)) pa_nil))) (pg_tup rfl (pgs_cons (pg_name (i := 5) scFac.nd rfl (Or.inl rfl)) (pgs_cons (pg_name (i := 6) scFac.nd rfl (Or.inl rfl)) (pgs_cons (pg_name (i := 7) scFac.nd rfl (Or.inl rfl)) pgs_nil)))))
      (pss_one (ps_ret (pe_cal c_spread hr (by rfl) (pa_cons (pe_cal c_ending hr (by rfl) (pa_cons (pv 5) (pa_cons (pv 6) (pa_cons (pe_callB call_len_seq (by rfl) z_len PySem.boot_len (pa_cons (pv 0) pa_nil)) pa_nil)))) (pa_cons (pv 6) (pa_cons (pe_callB call_len_seq (by rfl) z_len PySem.boot_len (pa_cons (pv 0) pa_nil)) pa_nil))))))))), ?_⟩
  obtain ⟨rows, sides, n⟩ := a
  have hp : FacOk rows sides n := hp
  have n9 : n ≤ 9 := hp.n9
  have rl : rows.length ≤ 9 := hp.rl
  have tl : (turnR rows n).length = n := by unfold turnR; rw [List.length_map, List.length_range]
  have k1 : -(2 ^ 63) ≤ (n : Int) := by omega
  have k2 : (n : Int) < 2 ^ 63 := by omega
  have k3 : ((n : Int)).toNat ≤ sizeLine := Nat.le_trans (by omega) (show 10 ≤ sizeLine by decide)
  refine go_set (t := tFss K) (x := turnR rows n ++ [sides]) (ev_cat (ev_call (z := (rows, n)) (ea_cons (ev_var rfl) (ea_cons (ev_var rfl) ea_nil)) ⟨Nat.le_trans rl (by decide), Nat.le_trans n9 (by decide), hp.wl⟩) (ev_lst (el_cons (ev_var rfl) el_nil) (by show 1 ≤ sizeLine; decide)) (Nat.le_trans (by rw [tl]; show n + 1 ≤ 10; omega) (show 10 ≤ sizeLine by decide))) ?_
  refine go_set (t := tFs K) (x := List.replicate n 0 ++ [1]) (ev_cat (ev_is (x' := List.replicate n (0 : Rat)) (ev_repS (t := tFr K) (x := 0) (ev_lst (el_cons (ev_k fun H => ⟨zZ, rfl, hZ H⟩) el_nil) (by show 1 ≤ sizeLine; decide)) (ev_var rfl) k1 k2 k3) (by rw [Int.toNat_natCast])) (ev_lst (el_cons (ev_k fun H => ⟨zO, rfl, hO H⟩) el_nil) (by show 1 ≤ sizeLine; decide)) (Nat.le_trans (by rw [List.length_replicate]; show n + 1 ≤ 10; omega) (show 10 ≤ sizeLine by decide))) ?_
  obtain ⟨w', hw', _⟩ := hp.tb.ek
  refine go_unP3 (ev_call (z := (askR rows sides n, rows.length)) (ea_cons (ev_call (z := (turnR rows n ++ [sides], List.replicate n (0 : Rat) ++ [1])) (ea_cons (ev_var rfl) (ea_cons (ev_var rfl) ea_nil)) hp.bs) (ea_cons (ev_len (ev_var rfl)) ea_nil)) ⟨w', hw'⟩) ?_
  refine go_end (y := facR rows sides n) (ev_nw (t := tFr K) (z := (⟨endR (facS rows sides n).fd (facS rows sides n).pv rows.length, (facS rows sides n).pv, rows.length⟩ : SprA)) (ea_cons ((evx_call (z := (⟨(facS rows sides n).fd, (facS rows sides n).pv, rows.length⟩ : EndA)) (ea_cons (ev_var rfl) (ea_cons (ev_var rfl) (ea_cons (ev_len (ev_var rfl)) ea_nil))) (hp.tb.en _ (Nat.le_refl _)) (List.Sublist.refl _)).ev) (ea_cons (ev_var rfl) (ea_cons (ev_len (ev_var rfl)) ea_nil))) ⟨by show rows.length ≤ 10; omega, hp.tb.lt⟩) out rfl rfl cDr sDr
def tSol (K : PySem.W.Frag) : Ty Sol := ⟨fun H v x => match x with
  | .none f => (tPr K tSt (tFs K)).r H v ("none", f)
  | .one u => (tPr K tSt (tFs K)).r H v ("one", u)
  | .several u k => (tP3 K tSt (tFs K) (tFs K)).r H v ("several", u, k), fun {H H' v x} e h => by
    cases x with
    | none f => exact (tPr K tSt (tFs K)).mono e h
    | one u => exact (tPr K tSt (tFs K)).mono e h
    | several u k => exact (tP3 K tSt (tFs K) (tFs K)).mono e h⟩
def Sol.word : Sol → Str
  | .none _ => "none"
  | .one _ => "one"
  | .several _ _ => "several"
def Sol.vals : Sol → RR
  | .none f => f
  | .one v => v
  | .several v _ => v
theorem ev_sol0 {W : Wd} {ta : TE} {x : Sol} (h : Ev W ta (tSol K) x) : Ev W (tOp (rIxT K) ta (tC (.int 0))) tSt x.word := by
  cases x with
  | none f => exact ev_fst (x := ("none" : Str)) (y := f) (t := tSt) (u := tFs K) (ev_to h fun _ _ r => r)
  | one f => exact ev_fst (x := ("one" : Str)) (y := f) (t := tSt) (u := tFs K) (ev_to h fun _ _ r => r)
  | several u k => exact ev_item (K := K) (α := Str × RR × RR) (x := (("several" : Str), u, k)) (fs' := fun x : Str × RR × RR => [tSt.is x.1, (tFs K).is x.2.1, (tFs K).is x.2.2]) (n := 0) (ev_to h fun _ _ r => r) rfl
theorem ev_sol1 {W : Wd} {ta : TE} {x : Sol} (h : Ev W ta (tSol K) x) : Ev W (tOp (rIxT K) ta (tC (.int 1))) (tFs K) x.vals := by
  cases x with
  | none f => exact ev_snd (x := ("none" : Str)) (y := f) (t := tSt) (u := tFs K) (ev_to h fun _ _ r => r)
  | one f => exact ev_snd (x := ("one" : Str)) (y := f) (t := tSt) (u := tFs K) (ev_to h fun _ _ r => r)
  | several u k => exact ev_item (K := K) (α := Str × RR × RR) (x := (("several" : Str), u, k)) (fs' := fun x : Str × RR × RR => [tSt.is x.1, (tFs K).is x.2.1, (tFs K).is x.2.2]) (n := 1) (ev_to h fun _ _ r => r) rfl
abbrev spSolu (K : PySem.W.Frag) (TB : List RS) : Sp := spN (fun _ : FcA => TB) (fA K) (tSol K) (fun a => SolOk a.rows a.sides a.n) (fun a y => y = solR a.rows a.sides a.n)
abbrev sSolu : Stmt := topS 18
theorem scSolu : FnScope ["rows", "sides", "columns", "table", "pivots", "rest", "values", "nothing"] ["rows", "sides", "columns"] (defScope sSolu) := ⟨rfl, rfl, rfl, by decide +kernel, rfl, by decide +kernel, by decide +kernel⟩
theorem ok_solu {f c Pe : Addr} {fd : FuncData} {k : Nat} (F : Fun K "solution" "solution" sSolu f fd) (hc : fd.code = .ref c) (tb : GxR.TabB base mg c Pe) (hT : tab Pe ∈ TB) (c_beside : Cal P w K mg base k "_beside" ["rows", "sides"] (spBes K)) (c_echelon : Cal P w K mg base k "_echelon" ["table", "columns"] (spEch K)) (c_ending : Cal P w K mg base k "_ending" ["table", "pivots", "column"] (spEnd K TB)) (c_spread : Cal P w K mg base k "_spread" ["values", "pivots", "columns"] (spSpr K)) (c_first_kernel : Cal P w K mg base k "_first_kernel" ["table", "pivots", "columns"] (spKer K TB)) (c_factors : Cal P w K mg base k "_factors" ["rows", "sides", "columns"] (spFac K TB)) (z_any : mg "any" = none) : FnOk P w K mg base CX0 (k + 1) f fd ["rows", "sides", "columns"] (spSolu K TB) := by
  refine ok_NCm F hc scSolu (fun _ => rfl) fun A outer s H0 S a Q E hr hp out hMS => ⟨_, (pss_cons (ps_asg (pe_cal c_echelon hr (by rfl) (pa_cons (pe_cal c_beside hr (by rfl) (pa_cons (pv 0) (pa_cons (pv 1) pa_nil))) (pa_cons (pv 2) pa_nil))) (pg_tup rfl (pgs_cons (pg_name (i := 3) scSolu.nd rfl (Or.inl rfl)) (pgs_cons (pg_name (i := 4) scSolu.nd rfl (Or.inl rfl)) (pgs_cons (pg_name (i := 5) scSolu.nd rfl (Or.inl rfl)) pgs_nil)))))
      (pss_cons (ps_if (pt_val (pe_gxAny (g := gName 0) (tt := tYes) (own := ["row"]) (fr := [("columns", 2)]) hr (by rfl) z_any tb rfl (gxS_by (N := ["rows", "sides", "columns", "table", "pivots", "rest", "values", "nothing"]) (sc := defScope sSolu) (by decide +kernel)) rfl (pi_list (pv 5)) (fun _ => rfl) (fun _ _ _ _ _ _ => (pg_name (i := 0) (show (["row", "columns"] : List Str).Nodup by decide +kernel) rfl (Or.inl rfl) (Or.inr rfl))) (fun _ _ _ _ _ _ => pts_nil) (fun _ _ _ _ _ _ => (pe_cmpR op_ne (pe_ix (ix_lstK (K := K) rfl) (pv 0) (pv 1) (fun _ _ => rfl)) pe_int (nomark _))))) (pss_one (ps_ret (pe_tup (pa_cons pe_str (pa_cons (pe_cal c_factors hr (by rfl) (pa_cons (pv 0) (pa_cons (pv 1) (pa_cons (pv 2) pa_nil)))) pa_nil))))) pss_nil)
      (pss_cons (ps_set (i := 6) scSolu.nd rfl (Or.inl rfl) (pe_cal c_spread hr (by rfl) (pa_cons (pe_cal c_ending hr (by rfl) (pa_cons (pv 3) (pa_cons (pv 4) (pa_cons (pv 2) pa_nil)))) (pa_cons (pv 4) (pa_cons (pv 2) pa_nil)))))
      (pss_cons (ps_set (i := 7) scSolu.nd rfl (Or.inl rfl) (pe_cal c_first_kernel hr (by rfl) (pa_cons (pv 3) (pa_cons (pv 4) (pa_cons (pv 2) pa_nil)))))
      (pss_cons (ps_if (pt_cmpR op_isN (pv 7) pe_non (nomark _)) (pss_one (ps_ret (pe_tup (pa_cons pe_str (pa_cons (pv 6) pa_nil))))) pss_nil)
      (pss_one (ps_ret (pe_tup (pa_cons pe_str (pa_cons (pv 6) (pa_cons (pv 7) pa_nil))))))))))), ?_⟩
  obtain ⟨rows, sides, n⟩ := a
  have hp : SolOk rows sides n := hp
  obtain ⟨w', hw', nw⟩ := hp.tb.ek
  obtain ⟨kr1, kr2, kr3⟩ := hp.tb.ker
  refine go_unP3 (ev_call (z := (besR rows sides, n)) (ea_cons (ev_call (z := (rows, sides)) (ea_cons (ev_var rfl) (ea_cons (ev_var rfl) ea_nil)) hp.bs) (ea_cons (ev_var rfl) ea_nil)) ⟨w', hw'⟩) ?_
  have fc := hp.fc
  have en := hp.tb.en n (Nat.le_refl _)
  have rw' := (hw'.at_ n (Nat.le_refl _)).row
  have out : Rt TB S H0 (tSol K) (fun y => y = solS (ech (besR rows sides) n) n (facR rows sides n)) Q := out
  dsimp only
  generalize ech (besR rows sides) n = s0 at fc en rw' kr1 kr3 out ⊢
  refine go_ifr (b := anyR s0 n) (et_is (et_of (ev_gxAny (f := fun r : IR => !decide (gI r n = 0)) (capG := [some (tInt.is (n : Int))]) hT (iv_list (ev_var rfl)) tgt_name (by simp) (cap1 rfl) (fun F r _ hm => ev_neI (ev_ixL (ev_var rfl) (ev_var rfl) (atG (by rw [(rw' r hm).1]; exact nw))) ev_int))) (by unfold anyR; congr 1; funext r; simp)) (fun h => ?_) (fun h => ?_)
  · refine go_end (y := .none (facR rows sides n)) (ev_to (t := tPr K tSt (tFs K)) (x := ("none", facR rows sides n)) (ev_pr ev_str ((evx_call (z := (⟨rows, sides, n⟩ : FcA)) (ea_cons (ev_var rfl) (ea_cons (ev_var rfl) (ea_cons (ev_var rfl) ea_nil))) (fc h) (List.Sublist.refl _)).ev)) fun _ _ r => r) out ?_ rfl cDr sDr
    unfold solS
    rw [if_pos h]
  · refine go_set (t := tFs K) (x := valR s0 n) (ev_nw (t := tFr K) (z := (⟨endR s0.fd s0.pv n, s0.pv, n⟩ : SprA)) (ea_cons ((evx_call (z := (⟨s0.fd, s0.pv, n⟩ : EndA)) (ea_cons (ev_var rfl) (ea_cons (ev_var rfl) (ea_cons (ev_var rfl) ea_nil))) en (List.Sublist.refl _)).ev) (ea_cons (ev_var rfl) (ea_cons (ev_var rfl) ea_nil))) ⟨kr2, kr3⟩) ?_
    refine go_set (t := tOpt (tFs K)) (x := kerR s0.fd s0.pv n) ((evx_call (z := (⟨s0.fd, s0.pv, n⟩ : KerA)) (ea_cons (ev_var rfl) (ea_cons (ev_var rfl) (ea_cons (ev_var rfl) ea_nil))) (⟨kr1, kr2, kr3⟩ : KerOk ⟨s0.fd, s0.pv, n⟩) (List.Sublist.refl _)).ev) ?_
    have hn : ¬ anyR s0 n = true := by rw [h]; simp
    cases ek : kerR s0.fd s0.pv n with
    | none =>
      refine go_ifr (b := true) (et_isN (ev_var (x := Option.none) rfl)) (fun _ => ?_) (fun h => by cases h)
      refine go_end (y := .one (valR s0 n)) (ev_to (t := tPr K tSt (tFs K)) (x := ("one", valR s0 n)) (ev_pr ev_str (ev_var rfl)) fun _ _ r => r) out ?_ rfl cDr sDr
      unfold solS
      rw [if_neg hn, ek]
    | some kl =>
      refine go_ifr (b := false) (et_isN (ev_var (x := some kl) rfl)) (fun h => by cases h) (fun _ => ?_)
      refine go_end (y := .several (valR s0 n) kl) (ev_to (t := tP3 K tSt (tFs K) (tFs K)) (x := ("several", valR s0 n, kl)) (ev_p3 ev_str (ev_var rfl) (ev_some (ev_var rfl))) fun _ _ r => r) out ?_ rfl cDr sDr
      unfold solS
      rw [if_neg hn, ek]
end
end
end Cs
set_option maxHeartbeats 4000000
namespace Cs
open PySem PySem.Spec PyProof.Rows L2
local macro_rules | `(tactic| walk_at "rd") => `(tactic| (first
  | (refine ⟨_, rfl, ?_⟩)
  | (refine ⟨_, _, rfl, rfl, ?_⟩)
  | (refine .inl ⟨_, rfl, ?_⟩)
  | (refine .inr ⟨_, rfl, ?_⟩)
  | (refine ⟨_, _, _, _, rfl, rfl, SqL.of upd_same, rfl, ?_⟩)
  | (refine ⟨_, _, _, _, rfl, rfl, upd_same, rfl, ?_⟩)
  | (refine ⟨_, ?xs, _, ?v, rfl, rfl, ?h, ?x, ?_⟩; (case h => first | exact SqL.of (by assumption) | exact SqT.of (by assumption) | assumption); (case x => first | rfl | exact atI_nat (j := 0) rfl | exact atI_nat (j := 1) rfl))))
local macro_rules | `(tactic| walk_at "isi") => `(tactic| (first
  | (refine ⟨_, _, _, _, _, rfl, .ty _, .base (.int _), kit_ty kit_it, ?_⟩)
  | (refine ⟨_, _, _, _, _, rfl, .ty _, .base (.int _), kit_ty kit_ib, ?_⟩)
  | (refine ⟨_, _, _, _, _, rfl, .ty _, .base (.int _), kit_ty kit_ii, ?_⟩)
  | (refine ⟨_, _, _, _, _, rfl, .ty _, .base (.bl _), kit_ty kit_bt, ?_⟩)
  | (refine ⟨_, _, _, _, _, rfl, .ty _, .base (.bl _), kit_ty kit_bb, ?_⟩)
  | (refine ⟨_, _, _, _, _, rfl, .ty _, .base (.bl _), kit_ty kit_bi, ?_⟩)))
local macro_rules | `(tactic| walk_at "ev") => `(tactic| (first
  | exact ev_var rfl
  | exact ev_int
  | exact ev_str
  | exact ev_bl
  | exact ev_non
  | (refine ev_add ?_ ?_ <;> walk_at "ev")
  | (refine ev_sub ?_ ?_ <;> walk_at "ev")
  | (refine ev_mul ?_ ?_ ?_ <;> (try walk_at "ev"))
  | (refine ev_neg ?_ <;> walk_at "ev")
  | (refine ev_num ?_ <;> walk_at "ev")
  | (refine ev_den ?_ <;> walk_at "ev")
  | (refine ev_cmp ?_ ?_ <;> walk_at "ev")
  | (refine ev_eqI ?_ ?_ <;> walk_at "ev")
  | (refine ev_eqS ?_ ?_ <;> walk_at "ev")
  | (refine ev_neI ?_ ?_ <;> walk_at "ev")
  | (refine ev_neS ?_ ?_ <;> walk_at "ev")
  | (refine ev_inS ?_ ?_ <;> walk_at "ev")
  | (refine ev_niS ?_ ?_ <;> walk_at "ev")
  | (refine ev_len ?_ <;> walk_at "ev")
  | (refine ev_list ?_ <;> walk_at "ev")
  | (refine ev_listRev ?_ <;> walk_at "ev")
  | (refine ev_int1 ?_ <;> walk_at "ev")))
local macro_rules | `(tactic| walk_at "ea") => `(tactic| (first
  | exact ea_nil
  | (refine ea_cons ?_ ?_ <;> (first | walk_at "ev" | walk_at "ea" | skip))))
local macro_rules | `(tactic| walk_at "sb") => `(tactic| (first | exact True.intro | (refine And.intro rfl ?_; walk_at "sb")))
local macro_rules | `(tactic| walk_at "subt") => `(tactic| repeat (first | exact List.nil_sublist _ | apply List.Sublist.cons₂ | apply List.Sublist.cons))
section
variable {P : Program} {w : World} {K : PySem.W.Frag} {mg : Str → Option Value} {base : Heap}
/-! ### kernels, ranks, what solves -/
section
variable {TB : List RS}
abbrev klS (rows : List RR) (n : Nat) : Sy := ech (rows.map whR) n
structure KlOk (rows : List RR) (n : Nat) : Prop where
  rl : rows.length ≤ 10
  ne : rows ≠ []
  wl : ∀ r ∈ rows, r.length = n
  wh : ∀ r ∈ rows, WhOk r
  tb : TabK (rows.map whR) n
abbrev klA (K : PySem.W.Frag) (a : List RR × Nat) : List SF := [(tFss K).is a.1, tInt.is (a.2 : Int)]
abbrev spKl (K : PySem.W.Frag) (TB : List RS) : Sp := spN (fun _ : List RR × Nat => TB) (klA K) (tOpt (tFs K)) (fun a => KlOk a.1 a.2) (fun a y => y = kerR (klS a.1 a.2).fd (klS a.1 a.2).pv a.2)
theorem ev_whs {W : Wd} {ta : TE} {n : Nat} {i : Nat} {rows : List RR} {vs : List Nat} (hi : i ∈ vs) (h : Ev W ta (tFss K) rows) (k : KlOk rows n) {te : TE} (he : ∀ D φ F r, (∀ f ∈ W.F, f ∈ F) → r ∈ rows → Ev ((W.el D φ F vs).puts [(i, (tFs K).is r)]) te (tRw K) (whR r)) : Ev W (tLc (iList K ta) (gName i) tYes te vs) (tRs K) (rows.map whR) :=
  ev_lcm (K := K) (u := tRw K) (f := whR) (iv_list h) tgt_name (by intro x q m; rw [List.mem_singleton.mp m]; exact hi) (Nat.lt_of_le_of_lt k.rl (by decide)) he
abbrev sKl : Stmt := topS 21
theorem scKl : FnScope ["rows", "columns", "table", "pivots", "_", "row"] ["rows", "columns"] (defScope sKl) := ⟨rfl, rfl, rfl, by decide +kernel, rfl, by decide +kernel, by decide +kernel⟩
theorem ok_kl {f : Addr} {fd : FuncData} {k : Nat} (F : Fun K "kernel_list" "kernel_list" sKl f fd) (c_whole : Cal P w K mg base k "_whole" ["row"] (spWhlS K)) (c_echelon : Cal P w K mg base k "_echelon" ["table", "columns"] (spEch K)) (c_first_kernel : Cal P w K mg base k "_first_kernel" ["table", "pivots", "columns"] (spKer K TB)) : FnOk P w K mg base CX0 (k + 1) f fd ["rows", "columns"] (spKl K TB) := by
  refine ok_Nm F scKl (fun _ => rfl) fun cdv A outer s H0 S a Q E hr hp out hMS => ⟨_, (pss_cons (ps_asg (pe_cal c_echelon hr (by rfl) (pa_cons (pe_lc (own := [("row", 5)]) (g := gName 5) (tt := tYes) rfl scKl.nd (pi_list (pv 0)) (blkOk_by (own := [("row", 5)]) (N := ["rows", "columns", "table", "pivots", "_", "row"]) (sc := defScope sKl) (by decide +kernel)) (fun _ _ _ _ _ => (pg_name (i := 5) scKl.nd rfl (Or.inl rfl))) (fun _ _ _ _ _ => pts_nil) (fun _ _ _ _ _ => (pe_cal c_whole hr (by rfl) (pa_cons (pv 5) pa_nil)))) (pa_cons (pv 1) pa_nil))) (pg_tup rfl (pgs_cons (pg_name (i := 2) scKl.nd rfl (Or.inl rfl)) (pgs_cons (pg_name (i := 3) scKl.nd rfl (Or.inl rfl)) (pgs_cons (pg_name (i := 4) scKl.nd rfl (Or.inl rfl)) pgs_nil)))))
      (pss_one (ps_ret (pe_cal c_first_kernel hr (by rfl) (pa_cons (pv 2) (pa_cons (pv 3) (pa_cons (pv 1) pa_nil))))))), ?_⟩
  obtain ⟨rows, n⟩ := a
  have hp : KlOk rows n := hp
  obtain ⟨w', hw'⟩ := hp.tb.ek
  obtain ⟨kr1, kr2, kr3⟩ := hp.tb.ker
  refine go_unP3 (ev_call (z := (rows.map whR, n)) (ea_cons (ev_whs (by simp) (ev_var rfl) hp fun D φ F r _ hm => ev_call (z := r) (ea_cons (ev_var rfl) ea_nil) (hp.wh r hm)) (ea_cons (ev_var rfl) ea_nil)) ⟨w', hw'⟩) ?_
  exact go_end (y := kerR (klS rows n).fd (klS rows n).pv n) ((evx_call (z := (⟨(klS rows n).fd, (klS rows n).pv, n⟩ : KerA)) (ea_cons (ev_var rfl) (ea_cons (ev_var rfl) (ea_cons (ev_var rfl) ea_nil))) (⟨kr1, kr2, kr3⟩ : KerOk ⟨(klS rows n).fd, (klS rows n).pv, n⟩) (List.Sublist.refl _)).ev) out rfl rfl cDr sDr
abbrev sKn : Stmt := topS 20
theorem scKn : FnScope ["rows", "columns"] ["rows", "columns"] (defScope sKn) := ⟨rfl, rfl, rfl, by decide +kernel, rfl, by decide +kernel, by decide +kernel⟩
theorem ok_kn {f : Addr} {fd : FuncData} {k : Nat} (F : Fun K "kernel" "kernel" sKn f fd) (c_check_lengths : Cal P w K mg base k "_check_lengths" ["rows", "columns"] (spChk K TB)) (c_check_size : Cal P w K mg base k "_check_size" ["rows", "columns"] (spCsz K)) (c_kernel_list : Cal P w K mg base k "kernel_list" ["rows", "columns"] (spKl K TB)) : FnOk P w K mg base CX0 (k + 1) f fd ["rows", "columns"] (spKl K TB) := by
  refine ok_Nm F scKn (fun _ => rfl) fun cdv A outer s H0 S a Q E hr hp out hMS => ⟨_, (pss_cons (ps_expr (pe_cal c_check_lengths hr (by rfl) (pa_cons (pv 0) (pa_cons (pv 1) pa_nil))))
      (pss_cons (ps_expr (pe_cal c_check_size hr (by rfl) (pa_cons (pv 0) (pa_cons (pv 1) pa_nil))))
      (pss_one (ps_ret (pe_cal c_kernel_list hr (by rfl) (pa_cons (pv 0) (pa_cons (pv 1) pa_nil))))))), ?_⟩
  obtain ⟨rows, n⟩ := a
  have hp : KlOk rows n := hp
  refine go_dropx (evx_call (z := (rows, n)) (ea_cons (ev_var rfl) (ea_cons (ev_var rfl) ea_nil)) hp.wl (List.Sublist.refl _)) fun _ _ => ?_
  refine go_drop (ev_call (z := (rows, n)) (ea_cons (ev_var rfl) (ea_cons (ev_var rfl) ea_nil)) ⟨Nat.le_trans hp.rl (by decide), Nat.le_trans hp.tb.n10 (by decide)⟩) ?_
  exact go_end (y := kerR (klS rows n).fd (klS rows n).pv n) ((evx_call (z := (rows, n)) (ea_cons (ev_var rfl) (ea_cons (ev_var rfl) ea_nil)) hp (List.Sublist.refl _)).ev) out rfl rfl cDr sDr
abbrev spRank (K : PySem.W.Frag) (TB : List RS) : Sp := spN (fun _ : List RR × Nat => TB) (fun a => [(tFss K).is a.1]) tInt (fun a => KlOk a.1 a.2) (fun a y => y = (((klS a.1 a.2).pv.length : Nat) : Int))
theorem width_n {rows : List RR} {n : Nat} (k1 : rows ≠ []) (k2 : ∀ r ∈ rows, r.length = n) : (rows.getD 0 []).length = n := k2 _ (getD_mem (List.length_pos_iff.mpr k1))
abbrev sRnk : Stmt := topS 19
theorem scRnk : FnScope ["rows", "columns", "row"] ["rows"] (defScope sRnk) := ⟨rfl, rfl, rfl, by decide +kernel, rfl, by decide +kernel, by decide +kernel⟩
theorem ok_rank {f : Addr} {fd : FuncData} {k : Nat} (F : Fun K "rank" "rank" sRnk f fd) (c_width : Cal P w K mg base k "_width" ["rows"] (spWidth K)) (c_check_lengths : Cal P w K mg base k "_check_lengths" ["rows", "columns"] (spChk K TB)) (c_check_size : Cal P w K mg base k "_check_size" ["rows", "columns"] (spCsz K)) (c_whole : Cal P w K mg base k "_whole" ["row"] (spWhlS K)) (c_echelon : Cal P w K mg base k "_echelon" ["table", "columns"] (spEch K)) (z_len : mg "len" = none) : FnOk P w K mg base CX0 (k + 1) f fd ["rows"] (spRank K TB) := by
  refine ok_Nm F scRnk (fun _ => rfl) fun cdv A outer s H0 S a Q E hr hp out hMS => ⟨_, (pss_cons (ps_set (i := 1) scRnk.nd rfl (Or.inl rfl) (pe_cal c_width hr (by rfl) (pa_cons (pv 0) pa_nil)))
      (pss_cons (ps_expr (pe_cal c_check_lengths hr (by rfl) (pa_cons (pv 0) (pa_cons (pv 1) pa_nil))))
      (pss_cons (ps_expr (pe_cal c_check_size hr (by rfl) (pa_cons (pv 0) (pa_cons (pv 1) pa_nil))))
      (pss_one (ps_ret (pe_callB call_len_seq (by rfl) z_len PySem.boot_len (pa_cons (pe_ix ix_tup (pe_cal c_echelon hr (by rfl) (pa_cons (pe_lc (own := [("row", 2)]) (g := gName 2) (tt := tYes) rfl scRnk.nd (pi_list (pv 0)) (blkOk_by (own := [("row", 2)]) (N := ["rows", "columns", "row"]) (sc := defScope sRnk) (by decide +kernel)) (fun _ _ _ _ _ => (pg_name (i := 2) scRnk.nd rfl (Or.inl rfl))) (fun _ _ _ _ _ => pts_nil) (fun _ _ _ _ _ => (pe_cal c_whole hr (by rfl) (pa_cons (pv 2) pa_nil)))) (pa_cons (pv 1) pa_nil))) pe_int (fun _ _ => rfl)) pa_nil))))))), ?_⟩
  obtain ⟨rows, n⟩ := a
  have hp : KlOk rows n := hp
  obtain ⟨w', hw'⟩ := hp.tb.ek
  refine go_set (t := tInt) (x := (n : Int)) (ev_is (ev_call (z := rows) (ea_cons (ev_var rfl) ea_nil) hp.ne) (by rw [width_n hp.ne hp.wl])) ?_
  refine go_dropx (evx_call (z := (rows, n)) (ea_cons (ev_var rfl) (ea_cons (ev_var rfl) ea_nil)) hp.wl (List.Sublist.refl _)) fun _ _ => ?_
  refine go_drop (ev_call (z := (rows, n)) (ea_cons (ev_var rfl) (ea_cons (ev_var rfl) ea_nil)) ⟨Nat.le_trans hp.rl (by decide), Nat.le_trans hp.tb.n10 (by decide)⟩) ?_
  refine go_end (y := (((klS rows n).pv.length : Nat) : Int)) (ev_is (ev_len (xs := pvI (klS rows n).pv) (t := tInt) (ev_item (K := K) (α := List IR × IR × List IR) (x := ((klS rows n).fd, pvI (klS rows n).pv, (klS rows n).rs)) (fs' := fun x : List IR × IR × List IR => [(tRs K).is x.1, (tRw K).is x.2.1, (tRs K).is x.2.2]) (n := 1) (ev_call (z := (rows.map whR, n)) (ea_cons (ev_whs (by simp) (ev_var rfl) hp fun D φ F r _ hm => ev_call (z := r) (ea_cons (ev_var rfl) ea_nil) (hp.wh r hm)) (ea_cons (ev_var rfl) ea_nil)) ⟨w', hw'⟩) rfl)) (by rw [List.length_map])) out rfl rfl cDr sDr
structure SvA where
  rows : List RR
  sides : RR
  n : Nat
structure SvOk (a : SvA) : Prop where
  rl : a.rows.length ≤ 10
  ne : a.rows ≠ []
  wl : ∀ r ∈ a.rows, r.length = a.n
  sl : a.sides.length = a.rows.length
  so : SolOk a.rows a.sides a.n
abbrev svA (K : PySem.W.Frag) (a : SvA) : List SF := [(tFss K).is a.rows, (tFs K).is a.sides]
abbrev spSolve (K : PySem.W.Frag) (TB : List RS) : Sp := spN (fun _ : SvA => TB) (svA K) (tSol K) SvOk (fun a y => y = solR a.rows a.sides a.n)
abbrev sSlv : Stmt := topS 17
theorem scSlv : FnScope ["rows", "sides", "columns"] ["rows", "sides"] (defScope sSlv) := ⟨rfl, rfl, rfl, by decide +kernel, rfl, by decide +kernel, by decide +kernel⟩
theorem ok_solve {f : Addr} {fd : FuncData} {k : Nat} (F : Fun K "solve" "solve" sSlv f fd) (c_width : Cal P w K mg base k "_width" ["rows"] (spWidth K)) (c_check_lengths : Cal P w K mg base k "_check_lengths" ["rows", "columns"] (spChk K TB)) (c_check_size : Cal P w K mg base k "_check_size" ["rows", "columns"] (spCsz K)) (c_solution : Cal P w K mg base k "solution" ["rows", "sides", "columns"] (spSolu K TB)) (z_len : mg "len" = none) : FnOk P w K mg base CX0 (k + 1) f fd ["rows", "sides"] (spSolve K TB) := by
  refine ok_Nm F scSlv (fun _ => rfl) fun cdv A outer s H0 S a Q E hr hp out hMS => ⟨_, (pss_cons (ps_set (i := 2) scSlv.nd rfl (Or.inl rfl) (pe_cal c_width hr (by rfl) (pa_cons (pv 0) pa_nil)))
      (pss_cons (ps_expr (pe_cal c_check_lengths hr (by rfl) (pa_cons (pv 0) (pa_cons (pv 2) pa_nil))))
      (pss_cons (ps_if (pt_cmpR op_ne (pe_callB call_len_seq (by rfl) z_len PySem.boot_len (pa_cons (pv 1) pa_nil)) (pe_callB call_len_seq (by rfl) z_len PySem.boot_len (pa_cons (pv 0) pa_nil)) (nomark _)) (pss_one ps_never) pss_nil)
      (pss_cons (ps_expr (pe_cal c_check_size hr (by rfl) (pa_cons (pv 0) (pa_cons (pv 2) pa_nil))))
      (pss_one (ps_ret (pe_cal c_solution hr (by rfl) (pa_cons (pv 0) (pa_cons (pv 1) (pa_cons (pv 2) pa_nil)))))))))), ?_⟩
  obtain ⟨rows, sides, n⟩ := a
  have hp : SvOk ⟨rows, sides, n⟩ := hp
  refine go_set (t := tInt) (x := (n : Int)) (ev_is (ev_call (z := rows) (ea_cons (ev_var rfl) ea_nil) hp.ne) (by rw [width_n hp.ne hp.wl])) ?_
  refine go_dropx (evx_call (z := (rows, n)) (ea_cons (ev_var rfl) (ea_cons (ev_var rfl) ea_nil)) hp.wl (List.Sublist.refl _)) fun _ _ => ?_
  refine go_ifr (b := false) (et_is (et_of (ev_neI (ev_len (ev_var rfl)) (ev_len (ev_var rfl)))) (by rw [hp.sl]; simp)) (fun h => by cases h) (fun _ => ?_)
  refine go_drop (ev_call (z := (rows, n)) (ea_cons (ev_var rfl) (ea_cons (ev_var rfl) ea_nil)) ⟨Nat.le_trans hp.rl (by decide), Nat.le_trans hp.so.tb.n10 (by decide)⟩) ?_
  exact go_end (y := solR rows sides n) ((evx_call (z := (⟨rows, sides, n⟩ : FcA)) (ea_cons (ev_var rfl) (ea_cons (ev_var rfl) (ea_cons (ev_var rfl) ea_nil))) hp.so (List.Sublist.refl _)).ev) out rfl rfl cDr sDr
structure VsA where
  rows : List RR
  sides : RR
  vals : RR
structure VsOk (a : VsA) : Prop where
  ne : a.rows ≠ []
  wl : ∀ r ∈ a.rows, r.length = a.vals.length
  l4 : a.vals.length ≤ 4
  sz : ∀ r ∈ a.rows, ∀ q ∈ r, Sz 240 q
  vz : ∀ q ∈ a.vals, Sz 720 q
def okV (rows : List RR) (sides vals : RR) : Bool := (rows.zip sides).all fun p => decide (dotR p.1 vals = p.2)
abbrev spSvs (K : PySem.W.Frag) (TB : List RS) : Sp := spN (fun _ : VsA => TB) (fun a => [(tFss K).is a.rows, (tFs K).is a.sides, (tFs K).is a.vals]) tBl VsOk (fun a y => y = okV a.rows a.sides a.vals)
abbrev sSvs : Stmt := topS 22
theorem scSvs : FnScope ["rows", "sides", "values"] ["rows", "sides", "values"] (defScope sSvs) := ⟨rfl, rfl, rfl, by decide +kernel, rfl, by decide +kernel, by decide +kernel⟩
theorem ok_svs {f c Pe : Addr} {fd : FuncData} {k : Nat} (F : Fun K "solves" "solves" sSvs f fd) (hc : fd.code = .ref c) (tb : GxR.TabB base mg c Pe) (hT : tab Pe ∈ TB) (c_width : Cal P w K mg base (k + 3) "_width" ["rows"] (spWidth K)) (c_products : Cal P w K mg base k "products" ["first", "second"] (spProdY K)) (z_len : mg "len" = none) (z_all : mg "all" = none) (z_zip : mg "zip" = none) : FnOk P w K mg base CX0 (k + 4) f fd ["rows", "sides", "values"] (spSvs K TB) := by
  refine ok_NCm F hc scSvs (fun _ => rfl) fun A outer s H0 S a Q E hr hp out hMS => ⟨_, (pss_cons (ps_if (pt_cmpR op_ne (pe_callB call_len_seq (by rfl) z_len PySem.boot_len (pa_cons (pv 2) pa_nil)) (pe_cal c_width hr (by rfl) (pa_cons (pv 0) pa_nil)) (nomark _)) (pss_one (ps_ret pe_bl)) pss_nil)
      (pss_one (ps_ret (pe_gxAll (g := gTup K 2 (gCons (gName 0) (gCons (gName 1) gNil))) (tt := tYes) (own := ["row", "side"]) (fr := [("values", 2)]) hr (by rfl) z_all (by decide +kernel) tb rfl (gxS_by (N := ["rows", "sides", "values"]) (sc := defScope sSvs) (by decide +kernel)) rfl (pi_zip (by rfl) z_zip (pa_cons (pv 0) (pa_cons (pv 1) pa_nil))) (fun _ => rfl) (fun _ _ _ _ _ _ => (pg_tup rfl (pgs_cons (pg_name (i := 0) (show (["row", "side", "values"] : List Str).Nodup by decide +kernel) rfl (Or.inl rfl) (Or.inr rfl)) (pgs_cons (pg_name (i := 1) (show (["row", "side", "values"] : List Str).Nodup by decide +kernel) rfl (Or.inl rfl) (Or.inr rfl)) pgs_nil)))) (fun _ _ _ _ _ _ => pts_nil) (fun _ _ _ _ _ _ => (pe_cmpR (op_eqDK (K := K) rfl (room_gx hr).units) (pe_cal c_products (room_gx hr) (by rfl) (pa_cons (pv 0) (pa_cons (pv 2) pa_nil))) (pv 1) (nomark _))))))), ?_⟩
  obtain ⟨rows, sides, vals⟩ := a
  have hp : VsOk ⟨rows, sides, vals⟩ := hp
  refine go_ifr (b := false) (et_is (et_of (ev_neI (ev_len (ev_var rfl)) (ev_call (z := rows) (ea_cons (ev_var rfl) ea_nil) hp.ne))) (by rw [width_n hp.ne hp.wl]; simp)) (fun h => by cases h) (fun _ => ?_)
  refine go_end (y := okV rows sides vals) (ev_gxAll (f := fun p : RR × Rat => decide (dotR p.1 vals = p.2)) (capG := [some ((tFs K).is vals)]) hT (iv_zip (ev_var rfl) (ev_var rfl)) tgt_pair (by simp) (cap1 rfl) (fun F p _ hm => ?_)) out rfl rfl cDr sDr
  obtain ⟨a1, a2⟩ := List.of_mem_zip (a := p.1) (b := p.2) hm
  have wl := hp.wl _ a1
  have l4 := hp.l4
  exact ev_eqD (eqFr (K := K)) (ev_call (z := (p.1, vals)) (ea_cons (ev_var rfl) (ea_cons (ev_var rfl) ea_nil)) ⟨by show p.1.length ≤ 4; rw [wl]; exact l4, hp.sz _ a1, hp.vz⟩) (ev_var rfl) (lay_fr _) (lay_fr _) (by simp [eqFr])
abbrev spIsk (K : PySem.W.Frag) (TB : List RS) : Sp := spN (fun _ : List RR × RR => TB) (fun a => [(tFss K).is a.1, (tFs K).is a.2]) tBl (fun a => VsOk ⟨a.1, [], a.2⟩ ∧ a.1.length ≤ 10) (fun a y => y = (!(a.2.all fun q => decide (q = 0)) && okV a.1 (List.replicate a.1.length 0) a.2))
abbrev sIsk : Stmt := topS 23
theorem scIsk : FnScope ["rows", "values"] ["rows", "values"] (defScope sIsk) := ⟨rfl, rfl, rfl, by decide +kernel, rfl, by decide +kernel, by decide +kernel⟩
theorem ok_isk {f c Pe zZ : Addr} {fd : FuncData} {k : Nat} (F : Fun K "is_kernel" "is_kernel" sIsk f fd) (hc : fd.code = .ref c) (tb : GxR.TabB base mg c Pe) (hT : tab Pe ∈ TB) (c_solves : Cal P w K mg base (k + 3) "solves" ["rows", "sides", "values"] (spSvs K TB)) (z_len : mg "len" = none) (z_all : mg "all" = none) (m_ZERO : mg "ZERO" = some (.ref zZ)) (hZ : ∀ H, SqT K H zZ [.int 0, .int 1]) : FnOk P w K mg base CX0 (k + 4) f fd ["rows", "values"] (spIsk K TB) := by
  refine ok_NCm (k := k + 3) F hc scIsk (fun _ => rfl) fun A outer s H0 S a Q E hr hp out hMS => ⟨_, (pss_cons (ps_if (pt_val (pe_gxAll (g := gName 0) (tt := tYes) (own := ["value"]) (fr := []) hr (by rfl) z_all (by decide +kernel) tb rfl (gxS_by (N := ["rows", "values"]) (sc := defScope sIsk) (by decide +kernel)) rfl (pi_list (pv 1)) (fun _ => rfl) (fun _ _ _ _ _ _ => (pg_name (i := 0) (show (["value"] : List Str).Nodup by decide +kernel) rfl (Or.inl rfl) (Or.inr rfl))) (fun _ _ _ _ _ _ => pts_nil) (fun _ _ _ _ _ _ => (pe_cmpR (op_eqDK (K := K) rfl (room_gx hr).units) (pv 0) (pe_glob (v := .ref zZ) (by rfl) m_ZERO rfl) (nomark _))))) (pss_one (ps_ret pe_bl)) pss_nil)
      (pss_one (ps_ret (pe_cal c_solves hr (by rfl) (pa_cons (pv 0) (pa_cons (pe_op op_rep (pe_lst (pa_cons (pe_glob (v := .ref zZ) (by rfl) m_ZERO rfl) pa_nil)) (pe_callB call_len_seq (by rfl) z_len PySem.boot_len (pa_cons (pv 0) pa_nil))) (pa_cons (pv 1) pa_nil))))))), ?_⟩
  obtain ⟨rows, vals⟩ := a
  obtain ⟨hp, rl⟩ := hp
  have hp : VsOk ⟨rows, [], vals⟩ := hp
  have rl : rows.length ≤ 10 := rl
  refine go_ifr (et_of (ev_gxAll (f := fun q : Rat => decide (q = 0)) (capG := []) hT (iv_list (ev_var rfl)) tgt_name (by simp) cap0 (fun F q _ hm => ev_eqD (eqFr (K := K)) (ev_var rfl) (ev_k (t := tFr K) (x := 0) fun H => ⟨zZ, rfl, hZ H⟩) (lay_fr _) (lay_fr _) (by simp [eqFr])))) (fun h => ?_) (fun h => ?_)
  · refine go_end (y := false) ev_bl out ?_ rfl cDr sDr
    show false = (!(vals.all fun q => decide (q = 0)) && _)
    rw [h]; rfl
  · have k1 : -(2 ^ 63) ≤ (rows.length : Int) := by omega
    have k2 : (rows.length : Int) < 2 ^ 63 := by omega
    have k3 : ((rows.length : Int)).toNat ≤ sizeLine := Nat.le_trans (by omega) (show 10 ≤ sizeLine by decide)
    refine go_end (y := okV rows (List.replicate rows.length 0) vals) ((evx_call (z := (⟨rows, List.replicate rows.length 0, vals⟩ : VsA)) (ea_cons (ev_var rfl) (ea_cons (ev_is (x' := List.replicate rows.length (0 : Rat)) (ev_repS (t := tFr K) (x := 0) (ev_lst (el_cons (ev_k fun H => ⟨zZ, rfl, hZ H⟩) el_nil) (by show 1 ≤ sizeLine; decide)) (ev_len (ev_var rfl)) k1 k2 k3) (by rw [Int.toNat_natCast])) (ea_cons (ev_var rfl) ea_nil))) ⟨hp.ne, hp.wl, hp.l4, hp.sz, hp.vz⟩ (List.Sublist.refl _)).ev) out ?_ rfl cDr sDr
    show _ = (!(vals.all fun q => decide (q = 0)) && _)
    rw [h]; rfl
end
end
end Cs
set_option maxHeartbeats 4000000
namespace Cs
/-! ### sizes along an echelon -/
theorem abs_fdiv (a b : Int) : (Int.fdiv a b).natAbs ≤ a.natAbs := by
  rcases Int.lt_trichotomy b 0 with h | h | h
  · have e : Int.fdiv a b = Int.fdiv (-a) (-b) := (Int.neg_fdiv_neg ..).symm
    rw [e, Int.fdiv_eq_ediv_of_nonneg _ (by omega)]
    have := Int.natAbs_ediv_le_natAbs (-a) (-b)
    omega
  · subst h; simp
  · rw [Int.fdiv_eq_ediv_of_nonneg _ (by omega)]
    exact Int.natAbs_ediv_le_natAbs a b
def eB : Nat → Nat
  | 0 => 30
  | m + 1 => 2 * eB m + 1
theorem eB_mono {m n : Nat} (h : m ≤ n) : eB m ≤ eB n := by
  induction n with
  | zero => rw [Nat.le_zero.mp h]; exact Nat.le_refl _
  | succ n ih =>
    rcases Nat.le_succ_iff.mp h with h | rfl
    · have := ih h
      show _ ≤ 2 * eB n + 1
      omega
    · exact Nat.le_refl _
theorem eB_5 {m : Nat} (h : m ≤ 5) : eB m ≤ 991 := Nat.le_trans (eB_mono h) (by decide)
def BdS (e : Nat) (r : IR) : Prop := ∀ j, (gI r j).natAbs < 2 ^ e
theorem BdS.mono {e f : Nat} {r : IR} (h : BdS e r) (k : e ≤ f) : BdS f r := fun j => Nat.lt_of_lt_of_le (h j) (Nat.pow_le_pow_right (by decide) k)
structure PIn (w k : Nat) (s : Sy) : Prop where
  len : s.fd.length + s.rs.length ≤ 5
  pl : s.pv.length = s.fd.length
  rl : ∀ r ∈ s.rs, r.length = w ∧ BdS (eB s.fd.length) r
  fl : ∀ r ∈ s.fd, r.length = w ∧ BdS (eB s.fd.length) r
  nz : ∀ (i : Nat) r p, s.fd[i]? = some r → s.pv[i]? = some p → gI r p ≠ 0
  lt : ∀ p ∈ s.pv, p < k
  d0 : s.dv ≠ 0
  dn : s.dv.natAbs < 2 ^ eB s.fd.length
theorem pin_step {w k : Nat} {s : Sy} (h : PIn w k s) (hk : k < w) : PIn w (k + 1) (echS s k) := by
  unfold echS
  cases e : fRow s.rs k with
  | none => exact ⟨h.len, h.pl, h.rl, h.fl, h.nz, fun p m => Nat.lt_succ_of_lt (h.lt p m), h.d0, h.dn⟩
  | some i =>
    unfold fRow at e
    rw [List.findIdx?_eq_some_iff_getElem] at e
    obtain ⟨il, e1, _⟩ := e
    have hm : s.rs.getD i [] ∈ s.rs := getD_mem il
    have hd : s.rs.getD i [] = s.rs[i] := by rw [List.getD_eq_getElem?_getD, List.getElem?_eq_getElem il]; rfl
    have nz : gI (s.rs.getD i []) k ≠ 0 := by rw [hd]; simpa using e1
    have qh := h.rl _ hm
    dsimp only
    generalize s.rs.getD i [] = hh at hm nz qh ⊢
    have ln := h.len
    have fe : (s.fd ++ [hh]).length = s.fd.length + 1 := by rw [List.length_append]; rfl
    have up : eB s.fd.length ≤ eB (s.fd.length + 1) := eB_mono (Nat.le_succ _)
    have sub : ∀ r ∈ s.rs.take i ++ s.rs.drop (i + 1), r ∈ s.rs := fun r hr' => by
      rcases List.mem_append.mp hr' with z | z
      · exact List.mem_of_mem_take z
      · exact List.mem_of_mem_drop z
    refine ⟨?_, ?_, fun r m => ?_, fun r m => ?_, fun j r p hj hp => ?_, fun p m => ?_, nz, ?_⟩
    · show (s.fd ++ [hh]).length + (List.map _ _).length ≤ 5
      rw [fe, List.length_map, List.length_append, List.length_take, List.length_drop]
      omega
    · show (s.pv ++ [k]).length = (s.fd ++ [hh]).length
      rw [fe, List.length_append, h.pl]; rfl
    · obtain ⟨r0, m0, rfl⟩ := List.mem_map.mp m
      have q := h.rl r0 (sub r0 m0)
      refine ⟨red_len q.1 qh.1 hk, fun j => ?_⟩
      show _ < 2 ^ eB (s.fd ++ [hh]).length
      rw [fe, gI_red q.1 qh.1 hk]
      split
      · exact Nat.two_pow_pos _
      · refine Nat.lt_of_le_of_lt (abs_fdiv _ _) ?_
        show _ < 2 ^ (2 * eB s.fd.length + 1)
        rw [Nat.two_mul]
        exact sub_lt (pow_lt (qh.2 k) (q.2 j)) (pow_lt (q.2 k) (qh.2 j))
    · show _ ∧ BdS (eB (s.fd ++ [hh]).length) r
      rw [fe]
      rcases List.mem_append.mp m with z | z
      · exact ⟨(h.fl r z).1, (h.fl r z).2.mono up⟩
      · rw [List.mem_singleton.mp z]; exact ⟨qh.1, qh.2.mono up⟩
    · have hj : (s.fd ++ [hh])[j]? = some r := hj
      have hp : (s.pv ++ [k])[j]? = some p := hp
      have jl := (List.getElem?_eq_some_iff.mp hj).1
      rw [fe] at jl
      rcases Nat.lt_or_ge j s.fd.length with c | c
      · rw [List.getElem?_append_left c] at hj
        rw [List.getElem?_append_left (by rw [h.pl]; exact c)] at hp
        exact h.nz j r p hj hp
      · obtain rfl : j = s.fd.length := by omega
        rw [List.getElem?_append_right (Nat.le_refl _), Nat.sub_self] at hj
        rw [List.getElem?_append_right (by rw [h.pl]; exact Nat.le_refl _), h.pl, Nat.sub_self] at hp
        obtain rfl := Option.some.inj hj
        obtain rfl := Option.some.inj hp
        exact nz
    · rcases List.mem_append.mp m with z | z
      · exact Nat.lt_succ_of_lt (h.lt p z)
      · rw [List.mem_singleton.mp z]; exact Nat.lt_succ_self _
    · show _ < 2 ^ eB (s.fd ++ [hh]).length
      rw [fe]
      exact qh.2.mono up k
theorem pin_all {w : Nat} {t : List IR} (l5 : t.length ≤ 5) (ht : ∀ r ∈ t, r.length = w ∧ BdS 30 r) : ∀ k, k ≤ w → PIn w k (ech t k)
  | 0, _ => ⟨by show 0 + t.length ≤ 5; omega, rfl, ht, (fun r m => nomatch m), (fun i r p h => by cases h), (fun p m => nomatch m), (by show (1 : Int) ≠ 0; decide), (by show (1 : Int).natAbs < 2 ^ 30; decide)⟩
  | k + 1, hk => by rw [ech_succ]; exact pin_step (pin_all l5 ht k (by omega)) (by omega)
theorem Fs_abs {x : Fn} {e f : Nat} (hx : ∀ j, (x j).natAbs < 2 ^ e) : ∀ {t : List (Nat × Int)}, (∀ p ∈ t, p.2.natAbs < 2 ^ f) → (Fs t x).natAbs ≤ t.length * 2 ^ (e + f)
  | [], _ => by show (0 : Int).natAbs ≤ _; simp
  | p :: t, h => by
    have h1 := Fs_abs hx (t := t) fun q m => h q (List.mem_cons_of_mem _ m)
    have h2 := pow_lt (hx p.1) (h p (List.mem_cons_self ..))
    have h3 := Int.natAbs_add_le (x p.1 * p.2) (Fs t x)
    show (x p.1 * p.2 + Fs t x).natAbs ≤ (t.length + 1) * 2 ^ (e + f)
    rw [Nat.add_mul, Nat.one_mul]
    omega
theorem nmb_abs {wl : Int} {c : Nat} (hw : wl.natAbs < 2 ^ 1000) : ∀ {rows : List (IR × Nat)}, rows.length ≤ 5 → (∀ p ∈ rows, BdS 1000 p.1) → ∀ z ∈ nmb wl c rows, z.natAbs < 2 ^ (1100 * (rows.length + 2))
  | [], _, _ => fun z m => nomatch m
  | p :: rest, hl, hb => by
    have l4 : rest.length ≤ 4 := by simpa using hl
    have ih := nmb_abs (c := c) hw (rows := rest) (by omega) fun q m => hb q (List.mem_cons_of_mem _ m)
    have le : 1100 * (rest.length + 2) ≤ 1100 * ((p :: rest).length + 2) := by rw [List.length_cons]; omega
    intro z m
    rcases List.mem_cons.mp m with rfl | m
    · refine Nat.lt_of_le_of_lt (abs_fdiv _ _) ?_
      have b := hb p (List.mem_cons_self ..)
      have h1 := Fs_abs (x := gI p.1) (e := 1000) (f := 1100 * (rest.length + 2)) b (t := (rest.map (·.2)).zip (nmb wl c rest)) fun q m => ih q.2 (List.of_mem_zip (a := q.1) (b := q.2) m).2
      have h2 := pow_lt hw (b c)
      have zl : ((rest.map (·.2)).zip (nmb wl c rest)).length ≤ 4 := by rw [List.length_zip, List.length_map]; omega
      have h3 : (Fs ((rest.map (·.2)).zip (nmb wl c rest)) (gI p.1)).natAbs ≤ 4 * 2 ^ (1000 + 1100 * (rest.length + 2)) := Nat.le_trans h1 (Nat.mul_le_mul_right _ zl)
      have h4 : (2 : Nat) ^ (1000 + 1000) ≤ 2 ^ (1000 + 1100 * (rest.length + 2)) := Nat.pow_le_pow_right (by decide) (by omega)
      have h5 : 8 * (2 : Nat) ^ (1000 + 1100 * (rest.length + 2)) ≤ 2 ^ (1100 * ((p :: rest).length + 2)) := by
        rw [show (8 : Nat) = 2 ^ 3 from rfl, ← Nat.pow_add]
        exact Nat.pow_le_pow_right (by decide) (by rw [List.length_cons]; omega)
      have h6 := Int.natAbs_sub_le (wl * gI p.1 c) (Fs ((rest.map (·.2)).zip (nmb wl c rest)) (gI p.1))
      omega
    · exact Nat.lt_of_lt_of_le (ih z m) (Nat.pow_le_pow_right (by decide) le)
theorem tab_ok {w n : Nat} {t : List IR} (l5 : t.length ≤ 5) (ht : ∀ r ∈ t, r.length = w ∧ BdS 30 r) (hn : n < w) (w9 : w ≤ 9) : TabOk t n := by
  have two : ∀ {e : Nat} {r : IR}, BdS e r → e ≤ 2000 → ∀ j, (gI r j).natAbs < 2 ^ 2000 := fun h k j => h.mono k j
  have e5 : ∀ {k}, k ≤ w → eB (ech t k).fd.length ≤ 991 := fun {k} hk => eB_5 (by have := (pin_all l5 ht k hk).len; omega)
  have P := pin_all l5 ht n (by omega)
  refine ⟨⟨w, ⟨by omega, by omega, fun k hk => ?_⟩, hn⟩, fun c hc => ?_, P.lt, by omega⟩
  · have A := pin_all l5 ht k (by omega)
    have e1 := e5 (show k ≤ w by omega)
    exact ⟨by have := A.len; omega, by have := A.len; omega, fun r m => ⟨(A.rl r m).1, two (A.rl r m).2 (by omega)⟩, A.d0, Nat.lt_of_lt_of_le A.dn (Nat.pow_le_pow_right (by decide) (by omega)), A.pl⟩
  · have e1 := e5 (show n ≤ w by omega)
    have ln := P.len
    refine ⟨P.pl, by show (ech t n).fd.length ≤ 10; omega, fun r m => ⟨by rw [(P.fl r m).1]; show c < w; omega, fun p mp => by rw [(P.fl r m).1]; have := P.lt p mp; omega⟩, fun r m => two (P.fl r m).2 (by omega), P.nz, fun z m => ?_⟩
    have m : z ∈ nmb (lstG (ech t n).fd (ech t n).pv) c ((ech t n).fd.zip (ech t n).pv) := m
    have zl : ((ech t n).fd.zip (ech t n).pv).length ≤ 5 := by rw [List.length_zip]; omega
    refine Nat.lt_of_lt_of_le (nmb_abs ?_ zl (fun p mp => ((P.fl p.1 (List.of_mem_zip (a := p.1) (b := p.2) mp).1).2).mono (by omega)) z m) (Nat.pow_le_pow_right (by decide) ?_)
    · by_cases c0 : (ech t n).fd.length = 0
      · have : (ech t n).fd = [] := List.eq_nil_of_length_eq_zero c0
        unfold lstG
        rw [this]
        show (gI [] _).natAbs < _
        rw [gI_out (Nat.zero_le _)]
        exact Nat.two_pow_pos _
      · exact ((P.fl _ (getD_mem (show (ech t n).fd.length - 1 < (ech t n).fd.length by omega))).2).mono (by omega) _
    · omega
theorem tab_okK {w n : Nat} {t : List IR} (l5 : t.length ≤ 5) (ht : ∀ r ∈ t, r.length = w ∧ BdS 30 r) (hn : n ≤ w) (w9 : w ≤ 9) : TabK t n := by
  have two : ∀ {e : Nat} {r : IR}, BdS e r → e ≤ 2000 → ∀ j, (gI r j).natAbs < 2 ^ 2000 := fun h k j => h.mono k j
  have e5 : ∀ {k}, k ≤ w → eB (ech t k).fd.length ≤ 991 := fun {k} hk => eB_5 (by have := (pin_all l5 ht k hk).len; omega)
  have P := pin_all l5 ht n (by omega)
  refine ⟨⟨w, ⟨by omega, by omega, fun k hk => ?_⟩⟩, ⟨fun c hc => ?_, by omega, P.lt⟩, by omega⟩
  · have A := pin_all l5 ht k (by omega)
    have e1 := e5 (show k ≤ w by omega)
    exact ⟨by have := A.len; omega, by have := A.len; omega, fun r m => ⟨(A.rl r m).1, two (A.rl r m).2 (by omega)⟩, A.d0, Nat.lt_of_lt_of_le A.dn (Nat.pow_le_pow_right (by decide) (by omega)), A.pl⟩
  · have e1 := e5 (show n ≤ w by omega)
    have ln := P.len
    refine ⟨P.pl, by show (ech t n).fd.length ≤ 10; omega, fun r m => ⟨by rw [(P.fl r m).1]; show c < w; omega, fun p mp => by rw [(P.fl r m).1]; have := P.lt p mp; omega⟩, fun r m => two (P.fl r m).2 (by omega), P.nz, fun z m => ?_⟩
    have m : z ∈ nmb (lstG (ech t n).fd (ech t n).pv) c ((ech t n).fd.zip (ech t n).pv) := m
    have zl : ((ech t n).fd.zip (ech t n).pv).length ≤ 5 := by rw [List.length_zip]; omega
    refine Nat.lt_of_lt_of_le (nmb_abs ?_ zl (fun p mp => ((P.fl p.1 (List.of_mem_zip (a := p.1) (b := p.2) mp).1).2).mono (by omega)) z m) (Nat.pow_le_pow_right (by decide) ?_)
    · by_cases c0 : (ech t n).fd.length = 0
      · have : (ech t n).fd = [] := List.eq_nil_of_length_eq_zero c0
        unfold lstG
        rw [this]
        show (gI [] _).natAbs < _
        rw [gI_out (Nat.zero_le _)]
        exact Nat.two_pow_pos _
      · exact ((P.fl _ (getD_mem (show (ech t n).fd.length - 1 < (ech t n).fd.length by omega))).2).mono (by omega) _
    · omega
/-! ### fractions with small denominators -/
def QB (e b : Nat) (r : Rat) : Prop := ∃ z : Int, z.natAbs ≤ b ∧ r = Rat.divInt z ((12 ^ e : Nat) : Int)
theorem p12 (e : Nat) : ((12 ^ e : Nat) : Int) ≠ 0 := by have : 0 < 12 ^ e := Nat.pow_pos (by decide); omega
theorem QB.up {e b : Nat} {r : Rat} (h : QB e b r) (k : Nat) : QB (e + k) (48 ^ k * b) r := by
  obtain ⟨z, hz, rfl⟩ := h
  refine ⟨z * ((12 ^ k : Nat) : Int), ?_, ?_⟩
  · rw [Int.natAbs_mul, Int.natAbs_natCast, Nat.mul_comm]
    exact Nat.mul_le_mul (Nat.pow_le_pow_left (by decide) k) hz
  · rw [Nat.pow_add, Int.natCast_mul, Rat.divInt_mul_right (p12 k)]
theorem QB.mono {e b c : Nat} {r : Rat} (h : QB e b r) (k : b ≤ c) : QB e c r := by
  obtain ⟨z, hz, e⟩ := h
  exact ⟨z, by omega, e⟩
theorem QB.mul {e f b c : Nat} {r s : Rat} (h : QB e b r) (g : QB f c s) : QB (e + f) (b * c) (r * s) := by
  obtain ⟨z, hz, rfl⟩ := h
  obtain ⟨y, hy, rfl⟩ := g
  refine ⟨z * y, by rw [Int.natAbs_mul]; exact Nat.mul_le_mul hz hy, ?_⟩
  rw [Rat.divInt_mul_divInt, Nat.pow_add, Int.natCast_mul]
theorem QB.add {e b c : Nat} {r s : Rat} (h : QB e b r) (g : QB e c s) : QB e (b + c) (r + s) := by
  obtain ⟨z, hz, rfl⟩ := h
  obtain ⟨y, hy, rfl⟩ := g
  refine ⟨z + y, by have := Int.natAbs_add_le z y; omega, ?_⟩
  rw [Rat.divInt_eq_div, Rat.divInt_eq_div, Rat.divInt_eq_div, Rat.intCast_add]
  grind
theorem QB.sum {e b : Nat} {xs : List Rat} (h : ∀ r ∈ xs, QB e b r) : QB e (xs.length * b) (rsum xs) := by
  rw [← rpre_all]
  have : ∀ k, k ≤ xs.length → QB e (k * b) (rpre xs k) := fun k => by
    induction k with
    | zero => intro _; exact ⟨0, by simp, by rw [rpre_zero, Rat.divInt_eq_div]; grind⟩
    | succ k ih =>
      intro hk
      have hx : xs[k]? = some xs[k] := List.getElem?_eq_getElem hk
      rw [rpre_succ hx, Nat.succ_mul]
      exact (ih (by omega)).add (h _ (List.getElem_mem hk))
  exact this _ (Nat.le_refl _)
end Cs
set_option maxHeartbeats 4000000
namespace Cs
/-! ### sums of products by places -/
theorem rsum_consS (x : Rat) (xs : List Rat) : rsum (x :: xs) = x + rsum xs := by
  have key : ∀ (ys : List Rat) (b : Rat), ys.foldl (fun x y => x + y) b = b + ys.foldl (fun x y => x + y) 0 := by
    intro ys
    induction ys with
    | nil => intro b; show b = b + 0; grind
    | cons y ys ih => intro b; rw [List.foldl_cons, List.foldl_cons, ih (b + y), ih (0 + y)]; grind
  unfold rsum
  rw [List.foldl_cons, key]
  grind
theorem dot_cons (x y : Rat) (a b : List Rat) : dotR (x :: a) (y :: b) = x * y + dotR a b := by
  unfold dotR
  rw [List.zip_cons_cons, List.map_cons, rsum_consS]
theorem dot_zero (a : List Rat) : ∀ n, dotR a (List.replicate n 0) = 0 := by
  induction a with
  | nil => intro n; rfl
  | cons x a ih =>
    intro n
    cases n with
    | zero => rfl
    | succ n => rw [List.replicate_succ, dot_cons, ih]; grind
theorem dot_set (v : Rat) : ∀ {a u : List Rat} {p : Nat}, a.length = u.length → p < u.length → dotR a (u.set p v) = dotR a u + a.getD p 0 * (v - u.getD p 0)
  | x :: a, y :: u, 0, _, _ => by
    show dotR (x :: a) (v :: u) = _
    rw [dot_cons, dot_cons]
    show _ = _ + x * (v - y)
    grind
  | x :: a, y :: u, p + 1, h, hp => by
    have ih := dot_set v (a := a) (u := u) (p := p) (by simpa using h) (by simpa using hp)
    show dotR (x :: a) (y :: u.set p v) = _
    rw [dot_cons, dot_cons, ih]
    show _ = _ + a.getD p 0 * (v - u.getD p 0)
    grind
  | [], [], p, _, hp => by simp at hp
def Sg (a : List Rat) : List (Rat × Nat) → Rat
  | [] => 0
  | p :: l => a.getD p.2 0 * p.1 + Sg a l
theorem set_getD {u : List Rat} {p q : Nat} {v : Rat} (h : p ≠ q) : (u.set p v).getD q 0 = u.getD q 0 := by rw [List.getD_eq_getElem?_getD, List.getD_eq_getElem?_getD, List.getElem?_set, if_neg h]
theorem dot_fold {a : List Rat} : ∀ {l : List (Rat × Nat)} {u : List Rat}, a.length = u.length → (∀ p ∈ l, p.2 < u.length ∧ u.getD p.2 0 = 0) → (l.map (·.2)).Nodup → dotR a (l.foldl (fun a p => a.set p.2 p.1) u) = dotR a u + Sg a l ∧ ∀ q, q ∉ l.map (·.2) → (l.foldl (fun a p => a.set p.2 p.1) u).getD q 0 = u.getD q 0
  | [], u, _, _, _ => ⟨by show dotR a u = dotR a u + 0; grind, fun q _ => rfl⟩
  | p :: l, u, h, hl, nd => by
    rw [List.map_cons, List.nodup_cons] at nd
    obtain ⟨h1, h2⟩ := hl p (List.mem_cons_self ..)
    obtain ⟨i1, i2⟩ := dot_fold (a := a) (l := l) (u := u.set p.2 p.1) (by rw [List.length_set]; exact h) (fun q m => by
      obtain ⟨g1, g2⟩ := hl q (List.mem_cons_of_mem _ m)
      refine ⟨by rw [List.length_set]; exact g1, ?_⟩
      rw [set_getD (fun e => nd.1 (by rw [e]; exact List.mem_map.mpr ⟨q, m, rfl⟩)), g2]) nd.2
    refine ⟨?_, fun q hq => ?_⟩
    · rw [List.foldl_cons, i1, dot_set p.1 h h1, h2]
      show _ = _ + (a.getD p.2 0 * p.1 + Sg a l)
      grind
    · rw [List.map_cons, List.mem_cons, not_or] at hq
      rw [List.foldl_cons, i2 q hq.2, set_getD (fun e => hq.1 e.symm)]
theorem zip_snd {α : Type} {vals : List α} {pv : List Nat} : ∀ q ∈ (vals.zip pv).map (·.2), q ∈ pv := fun q m => by
  obtain ⟨p, hp, rfl⟩ := List.mem_map.mp m
  exact (List.of_mem_zip (a := p.1) (b := p.2) hp).2
theorem dot_spr {a vals : List Rat} {pv : List Nat} {n : Nat} (h : a.length = n) (lt : ∀ p ∈ pv, p < n) (nd : ((vals.zip pv).map (·.2)).Nodup) : dotR a (sprD vals pv n) = Sg a (vals.zip pv) ∧ ∀ q, q ∉ pv → (sprD vals pv n).getD q 0 = 0 := by
  have z : ∀ q, (List.replicate n (0 : Rat)).getD q 0 = 0 := fun q => by
    rw [List.getD_eq_getElem?_getD, List.getElem?_replicate]
    split <;> rfl
  obtain ⟨i1, i2⟩ := dot_fold (a := a) (l := vals.zip pv) (u := List.replicate n 0) (by rw [List.length_replicate]; exact h) (fun p m => ⟨by rw [List.length_replicate]; exact lt _ (List.of_mem_zip (a := p.1) (b := p.2) m).2, z _⟩) nd
  refine ⟨?_, fun q hq => ?_⟩
  · unfold sprD
    rw [i1, dot_zero]
    grind
  · unfold sprD
    rw [i2 q fun m => hq (zip_snd q m), z]
theorem Sg_neg (a : List Rat) : ∀ (vals : List Rat) (pv : List Nat), Sg a ((vals.map fun r => -r).zip pv) = - Sg a (vals.zip pv)
  | [], _ => by show (0 : Rat) = -0; grind
  | _ :: _, [] => by show (0 : Rat) = -0; grind
  | v :: vals, p :: pv => by
    have ih := Sg_neg a vals pv
    show a.getD p 0 * (-v) + Sg a ((vals.map fun r => -r).zip pv) = -(a.getD p 0 * v + Sg a (vals.zip pv))
    rw [ih]
    grind
theorem sg_fs {a : List Rat} {x : Fn} {c : Rat} {n : Nat} {W : Int} (hW : W ≠ 0) (hx : ∀ j, j < n → ((x j : Int) : Rat) = c * a.getD j 0) : ∀ {pv : List Nat} {N : List Int}, (∀ p ∈ pv, p < n) → ((Fs (pv.zip N) x : Int) : Rat) = c * (W : Rat) * Sg a ((N.map fun z => Rat.divInt z W).zip pv)
  | [], N, _ => by
    show ((0 : Int) : Rat) = _
    have : (N.map fun z => Rat.divInt z W).zip ([] : List Nat) = [] := List.zip_nil_right
    rw [this]
    show ((0 : Int) : Rat) = c * (W : Rat) * 0
    grind
  | p :: pv, [], _ => by show ((0 : Int) : Rat) = c * (W : Rat) * 0; grind
  | p :: pv, z :: N, h => by
    have ih := sg_fs (N := N) hW hx (pv := pv) fun q m => h q (List.mem_cons_of_mem _ m)
    have e := hx p (h p (List.mem_cons_self ..))
    show ((x p * z + Fs (pv.zip N) x : Int) : Rat) = c * (W : Rat) * (a.getD p 0 * Rat.divInt z W + Sg a ((N.map fun z => Rat.divInt z W).zip pv))
    rw [Rat.intCast_add, Rat.intCast_mul, ih, e, Rat.divInt_eq_div]
    have w0 : (W : Rat) ≠ 0 := by exact_mod_cast hW
    grind
/-! ### rational factors -/
def FR : List (Nat × Rat) → Fn → Rat
  | [], _ => 0
  | p :: t, x => ((x p.1 : Int) : Rat) * p.2 + FR t x
theorem FR_comb (t : List (Nat × Rat)) (x y z u : Fn) (a b c d : Int) : FR t (fun j => a * x j + b * y j + c * z j + d * u j) = a * FR t x + b * FR t y + c * FR t z + d * FR t u := by
  induction t with
  | nil => show (0 : Rat) = a * 0 + b * 0 + c * 0 + d * 0; grind
  | cons p t ih =>
    show ((a * x p.1 + b * y p.1 + c * z p.1 + d * u p.1 : Int) : Rat) * p.2 + FR t _ = a * (x p.1 * p.2 + FR t x) + b * (y p.1 * p.2 + FR t y) + c * (z p.1 * p.2 + FR t z) + d * (u p.1 * p.2 + FR t u)
    rw [ih, Rat.intCast_add, Rat.intCast_add, Rat.intCast_add, Rat.intCast_mul, Rat.intCast_mul, Rat.intCast_mul, Rat.intCast_mul]
    grind
theorem FR_app (s t : List (Nat × Rat)) (x : Fn) : FR (s ++ t) x = FR s x + FR t x := by
  induction s with
  | nil => show FR t x = 0 + FR t x; grind
  | cons p s ih => show x p.1 * p.2 + FR (s ++ t) x = (x p.1 * p.2 + FR s x) + FR t x; rw [ih]; grind
theorem FR_D {t : List (Nat × Rat)} {l : Pvs} (k : l.length ≤ 3) (h : ∀ p ∈ l, FR t p.1 = 0) (x : Fn) : FR t (Dl l x) = (PvL l : Int) * FR t x := by
  match l, k, h with
  | [], _, _ => show FR t x = ((1 : Int) : Rat) * FR t x; grind
  | [(p, a)], _, h =>
    have h1 : FR t p = 0 := h (p, a) (List.mem_cons_self ..)
    have e : Dl [(p, a)] x = fun j => p a * x j + (-(x a)) * p j + 0 * x j + 0 * x j := funext fun j => by show p a * x j - p j * x a = _; grind
    rw [e, FR_comb, h1]
    show _ = ((p a : Int) : Rat) * FR t x
    grind
  | [(p, a), (q, b)], _, h =>
    have h1 : FR t p = 0 := h (p, a) (List.mem_cons_self ..)
    have h2 : FR t q = 0 := h (q, b) (List.mem_cons_of_mem _ (List.mem_cons_self ..))
    have e : Dl [(p, a), (q, b)] x = fun j => (p a * q b - p b * q a) * x j + (-(p a * x b - p b * x a)) * q j + (q a * x b - q b * x a) * p j + 0 * x j := funext fun j => by show D3f _ _ _ _ _ _ _ _ _ = _; unfold D3f; grind
    rw [e, FR_comb, h1, h2]
    show _ = ((p a * q b - p b * q a : Int) : Rat) * FR t x
    grind
  | [(p, a), (q, b), (r, c)], _, h =>
    have h1 : FR t p = 0 := h (p, a) (List.mem_cons_self ..)
    have h2 : FR t q = 0 := h (q, b) (List.mem_cons_of_mem _ (List.mem_cons_self ..))
    have h3 : FR t r = 0 := h (r, c) (List.mem_cons_of_mem _ (List.mem_cons_of_mem _ (List.mem_cons_self ..)))
    have e : Dl [(p, a), (q, b), (r, c)] x = fun j => D3f (p a) (p b) (p c) (q a) (q b) (q c) (r a) (r b) (r c) * x j + (-(D3f (p a) (p b) (p c) (q a) (q b) (q c) (x a) (x b) (x c))) * r j + D3f (p a) (p b) (p c) (r a) (r b) (r c) (x a) (x b) (x c) * q j + (-(D3f (q a) (q b) (q c) (r a) (r b) (r c) (x a) (x b) (x c))) * p j := funext fun j => by
      show D4f _ _ _ _ _ _ _ _ _ _ _ _ _ _ _ _ = _; unfold D4f D3f; grind
    rw [e, FR_comb, h1, h2, h3]
    show _ = ((D3f (p a) (p b) (p c) (q a) (q b) (q c) (r a) (r b) (r c) : Int) : Rat) * FR t x
    grind
def tvR (n : Nat) (v : Nat → Rat) : List (Nat × Rat) := (List.range n).map fun j => (j, v j)
theorem FR_tv_succ (n : Nat) (v : Nat → Rat) (x : Fn) : FR (tvR (n + 1) v) x = FR (tvR n v) x + x n * v n := by
  unfold tvR
  rw [List.range_succ, List.map_append, FR_app]
  show _ + (x n * v n + 0) = _
  grind
theorem FR_tv_zero {v : Nat → Rat} {x : Fn} : ∀ {n : Nat}, (∀ q, q < n → ((x q : Int) : Rat) * v q = 0) → FR (tvR n v) x = 0
  | 0, _ => rfl
  | n + 1, h => by rw [FR_tv_succ, FR_tv_zero fun q hq => h q (by omega), h n (by omega)]; grind
theorem FR_tv_one {v : Nat → Rat} {x : Fn} {j : Nat} : ∀ {n : Nat}, j < n → (∀ q, q < n → q ≠ j → ((x q : Int) : Rat) * v q = 0) → FR (tvR n v) x = x j * v j
  | n + 1, hj, h => by
    rw [FR_tv_succ]
    rcases Nat.lt_succ_iff_lt_or_eq.mp hj with c | rfl
    · rw [FR_tv_one c fun q hq => h q (by omega), h n (by omega) (by omega)]; grind
    · rw [FR_tv_zero fun q hq => h q (by omega) (by omega)]; grind
theorem FR_dot {a v : List Rat} {x : Fn} {c : Rat} {n : Nat} (ha : a.length = n) (hv : v.length = n) (hx : ∀ j, j < n → ((x j : Int) : Rat) = c * a.getD j 0) : FR (tvR n fun j => v.getD j 0) x = c * dotR a v := by
  have key : ∀ k, k ≤ n → FR (tvR k fun j => v.getD j 0) x = c * dotR (a.take k) (v.take k) := by
    intro k
    induction k with
    | zero => intro _; show (0 : Rat) = c * 0; grind
    | succ k ih =>
      intro hk
      have e1 : a[k]? = some (a.getD k 0) := by rw [List.getD_eq_getElem?_getD, List.getElem?_eq_getElem (by omega)]; rfl
      have e2 : v[k]? = some (v.getD k 0) := by rw [List.getD_eq_getElem?_getD, List.getElem?_eq_getElem (by omega)]; rfl
      have ds : dotR (a.take k ++ [a.getD k 0]) (v.take k ++ [v.getD k 0]) = dotR (a.take k) (v.take k) + a.getD k 0 * v.getD k 0 := by
        unfold dotR
        rw [List.zip_append (by rw [List.length_take, List.length_take]; omega), List.map_append]
        unfold rsum
        rw [List.foldl_append]
        rfl
      rw [FR_tv_succ, ih (by omega), take_snoc e1, take_snoc e2, ds, hx k (by omega)]
      grind
  have := key n (Nat.le_refl _)
  rw [List.take_of_length_le (by omega), List.take_of_length_le (by omega)] at this
  exact this
end Cs
set_option maxHeartbeats 4000000
namespace Cs
/-! ### what echelons tell of the rows -/
/-- the row a, times c -/
def Scl (n : Nat) (x : IR) (a : List Rat) (c : Rat) : Prop := c ≠ 0 ∧ a.length = n ∧ ∀ j, j < n → ((gI x j : Int) : Rat) = c * a.getD j 0
section
variable {w n : Nat} {og : List IR} {s : Sy} {l : Lp} {xs : List IR}
theorem EI.nd (h : EI w og n s l xs) : s.pv.Nodup := by
  rw [h.pv]
  exact h.sr.imp fun h => Nat.ne_of_lt h
theorem EI.pl (h : EI w og n s l xs) : s.pv.length = s.fd.length := by rw [h.pv, List.length_map, h.fl]
theorem EI.lt' (h : EI w og n s l xs) : ∀ p ∈ s.pv, p < n := by
  rw [h.pv]
  intro p m
  obtain ⟨q, hq, rfl⟩ := List.mem_map.mp m
  exact h.lt q hq
theorem EI.lst (h : EI w og n s l xs) (hne : s.fd ≠ []) : lstG s.fd s.pv = PvL (fnl l) := by
  have fl : 0 < s.fd.length := List.length_pos_iff.mpr hne
  have ll : l.length = s.fd.length := h.fl.symm
  have il : l.length - 1 < l.length := by omega
  have hr : s.fd[l.length - 1]? = some (s.fd.getD (s.fd.length - 1) []) := by rw [ll, List.getD_eq_getElem?_getD, List.getElem?_eq_getElem (show s.fd.length - 1 < s.fd.length by omega)]; rfl
  have hp : l[l.length - 1]? = some l[l.length - 1] := List.getElem?_eq_getElem il
  have e : s.pv.getD (s.pv.length - 1) 0 = l[l.length - 1].2 := by
    rw [h.pv, List.length_map, List.getD_eq_getElem?_getD, List.getElem?_map, hp]; rfl
  unfold lstG
  rw [e]
  exact h.last hr hp (by omega)
theorem EI.W0 (h : EI w og n s l xs) : PvL (fnl l) ≠ 0 := by rw [← h.dv]; exact h.d0
theorem EI.fd0 (h : EI w og n s l xs) (e : s.fd = []) : l = [] := List.eq_nil_of_length_eq_zero (by rw [← h.fl, e]; rfl)
/-- the factors of the pivots that make the column -/
theorem EI.sum (h : EI w og n s l xs) {col : Nat} (hz : ∀ r ∈ s.rs, gI r col = 0) {x : IR} (hx : x ∈ og) {a : List Rat} {c : Rat} (sc : Scl n x a c) : c * Sg a ((endR s.fd s.pv col).zip s.pv) = ((gI x col : Int) : Rat) := by
  obtain ⟨e1, e2⟩ := h.cram hz
  have e2 := e2 x hx
  have W0 := h.W0
  have w0 : ((PvL (fnl l) : Int) : Rat) ≠ 0 := by exact_mod_cast W0
  have k := sg_fs W0 sc.2.2 (pv := s.pv) (N := nmb (PvL (fnl l)) col (s.fd.zip s.pv)) h.lt'
  rw [e2, Rat.intCast_mul] at k
  by_cases f0 : s.fd = []
  · have l0 := h.fd0 f0
    have pv0 : s.pv = [] := by rw [h.pv, l0]; rfl
    rw [pv0] at k ⊢
    rw [List.zip_nil_right] at k ⊢
    have k : ((PvL (fnl l) : Int) : Rat) * ((gI x col : Int) : Rat) = c * ((PvL (fnl l) : Int) : Rat) * 0 := k
    show c * 0 = _
    grind
  · have ee : endR s.fd s.pv col = (nmb (PvL (fnl l)) col (s.fd.zip s.pv)).map fun z => Rat.divInt z (PvL (fnl l)) := by
      unfold endR endN
      rw [if_neg f0, h.lst f0]
    rw [ee]
    grind
theorem EI.zn (h : EI w og n s l xs) : ∀ r ∈ s.rs, ∀ j, j < n → gI r j = 0 := fun r m j hj => by
  obtain ⟨i, hi⟩ := List.mem_iff_getElem?.mp m
  have il := (List.getElem?_eq_some_iff.mp hi).1
  have xl : i < xs.length := by rw [← h.rl]; exact il
  exact (h.rs i r xs[i] hi (List.getElem?_eq_getElem xl)).2 j hj
theorem zip_nd (h : s.pv.Nodup) {vals : List Rat} : ((vals.zip s.pv).map (·.2)).Nodup := by
  have : ((vals.zip s.pv).map (·.2)) = s.pv.take (vals.zip s.pv).length := by
    refine List.ext_getElem? fun i => ?_
    rw [List.getElem?_map, List.getElem?_take]
    by_cases c : i < (vals.zip s.pv).length
    · have c2 := c
      rw [List.length_zip] at c2
      rw [if_pos c, show (vals.zip s.pv)[i]? = some (vals[i]'(by omega), s.pv[i]'(by omega)) from by rw [List.getElem?_zip_eq_some]; exact ⟨List.getElem?_eq_getElem _, List.getElem?_eq_getElem _⟩, List.getElem?_eq_getElem (show i < s.pv.length by omega)]
      rfl
    · rw [if_neg c, List.getElem?_eq_none (by omega)]; rfl
  rw [this]
  exact h.sublist (List.take_sublist ..)
/-- the kernel list solves the rows with 0 -/
theorem EI.ker (h : EI w og n s l xs) {v : List Rat} (e : kerR s.fd s.pv n = some v) : v.length = n ∧ (∃ c, c < n ∧ v.getD c 0 = 1) ∧ ∀ x ∈ og, ∀ a c, Scl n x a c → dotR a v = 0 := by
  unfold kerR at e
  cases f : (List.range n).find? (fun c => decide (c ∉ s.pv)) with
  | none => rw [f] at e; cases e
  | some c =>
    rw [f] at e
    have ev := Option.some.inj e
    have cm := List.mem_range.mp (List.mem_of_find?_eq_some f)
    have cp : c ∉ s.pv := by have := List.find?_some f; simpa using this
    have sl := sprD_len ((endR s.fd s.pv c).map fun r => -r) s.pv n
    refine ⟨by rw [← ev, List.length_set, sl], ⟨c, cm, by rw [← ev, List.getD_eq_getElem?_getD, List.getElem?_set, if_pos rfl, if_pos (by rw [sl]; exact cm)]; rfl⟩, fun x hx a k sc => ?_⟩
    obtain ⟨d1, d2⟩ := dot_spr (a := a) (vals := (endR s.fd s.pv c).map fun r => -r) (pv := s.pv) sc.2.1 h.lt' (zip_nd h.nd)
    have sm := h.sum (col := c) (fun r m => h.zn r m c cm) hx sc
    rw [sc.2.2 c cm] at sm
    have k0 := sc.1
    rw [← ev, dot_set 1 (by rw [sl]; exact sc.2.1) (by rw [sl]; exact cm), d1, d2 c cp, Sg_neg]
    have : Sg a ((endR s.fd s.pv c).zip s.pv) = a.getD c 0 := by
      have z : k * (Sg a ((endR s.fd s.pv c).zip s.pv) - a.getD c 0) = 0 := by grind
      rcases Rat.mul_eq_zero.mp z with q | q
      · exact absurd q k0
      · grind
    rw [this]
    grind
/-- the values solve -/
theorem EI.val (h : EI w og n s l xs) (ha : anyR s n = false) : (valR s n).length = n ∧ ∀ x ∈ og, ∀ a c b, Scl n x a c → ((gI x n : Int) : Rat) = c * b → dotR a (valR s n) = b := by
  refine ⟨sprD_len _ _ _, fun x hx a c b sc hb => ?_⟩
  have hz : ∀ r ∈ s.rs, gI r n = 0 := fun r m => by
    unfold anyR at ha
    rw [List.any_eq_false] at ha
    have := ha r m
    simpa using this
  have sm := h.sum (col := n) hz hx sc
  unfold valR
  rw [(dot_spr (a := a) (vals := endR s.fd s.pv n) (pv := s.pv) sc.2.1 h.lt' (zip_nd h.nd)).1]
  have k0 := sc.1
  have z : c * (Sg a ((endR s.fd s.pv n).zip s.pv) - b) = 0 := by grind
  rcases Rat.mul_eq_zero.mp z with q | q
  · exact absurd q k0
  · grind
theorem EI.fr (h : EI w og n s l xs) {t : List (Nat × Rat)} (ht : ∀ x ∈ og, FR t (gI x) = 0) : (∀ r ∈ s.fd, FR t (gI r) = 0) ∧ ∀ r ∈ s.rs, FR t (gI r) = 0 := by
  have hl : ∀ p ∈ fnl l, FR t p.1 = 0 := fun p hp => by
    obtain ⟨q, hq, rfl⟩ := List.mem_map.mp hp
    exact ht q.1 (h.pm.mem_iff.mpr (List.mem_append_left _ (List.mem_map.mpr ⟨q, hq, rfl⟩)))
  have c4 := h.cnt
  refine ⟨fun r m => ?_, fun r m => ?_⟩
  · obtain ⟨i, hi⟩ := List.mem_iff_getElem?.mp m
    have il : i < l.length := by rw [← h.fl]; exact (List.getElem?_eq_some_iff.mp hi).1
    have hp : l[i]? = some l[i] := List.getElem?_eq_getElem il
    obtain ⟨h1, _, _⟩ := h.fd i r _ hi hp
    rw [h1, FR_D (by rw [List.length_map, List.length_take]; omega) (fun q hq => hl q (by rw [take_fnl] at hq; exact List.mem_of_mem_take hq)), ht _ (h.pm.mem_iff.mpr (List.mem_append_left _ (List.mem_map.mpr ⟨l[i], List.getElem_mem il, rfl⟩)))]
    grind
  · obtain ⟨i, hi⟩ := List.mem_iff_getElem?.mp m
    have xl : i < xs.length := by rw [← h.rl]; exact (List.getElem?_eq_some_iff.mp hi).1
    obtain ⟨h1, _⟩ := h.rs i r xs[i] hi (List.getElem?_eq_getElem xl)
    rw [h1, FR_D (by rw [List.length_map]; omega) hl, ht _ (h.pm.mem_iff.mpr (List.mem_append_right _ (List.getElem_mem xl)))]
    grind
/-- where every column is a pivot nothing but 0 solves the rows with 0 -/
theorem EI.triv (h : EI w og n s l xs) (full : ∀ c, c < n → c ∈ s.pv) {v : Nat → Rat} (ht : ∀ x ∈ og, FR (tvR n v) (gI x) = 0) : ∀ k j, j < n → n ≤ j + k → v j = 0 := by
  have hf := (h.fr ht).1
  intro k
  induction k with
  | zero => intro j h1 h2; omega
  | succ k ih =>
    intro j hj hk
    have jm := full j hj
    rw [h.pv] at jm
    obtain ⟨p, hp, rfl⟩ := List.mem_map.mp jm
    obtain ⟨i, hi⟩ := List.mem_iff_getElem?.mp hp
    have il : i < s.fd.length := by rw [h.fl]; exact (List.getElem?_eq_some_iff.mp hi).1
    have hr : s.fd[i]? = some s.fd[i] := List.getElem?_eq_getElem il
    obtain ⟨_, h2, h3⟩ := h.fd i _ p hr hi
    have z := hf _ (List.getElem_mem il)
    rw [FR_tv_one hj fun q hq hne => ?_] at z
    · rcases Rat.mul_eq_zero.mp z with q | q
      · exact absurd (by exact_mod_cast q) h2
      · exact q
    · rcases Nat.lt_or_gt_of_ne hne with c | c
      · rw [h3 q c]; show ((0 : Int) : Rat) * v q = 0; grind
      · rw [ih q hq (by omega)]; grind
/-- a system that has a solution -/
theorem EI.any (h : EI w og n s l xs) {y : List Rat} (hy : y.length = n) (hc : ∀ x ∈ og, ∃ a c, Scl n x a c ∧ ((gI x n : Int) : Rat) = c * dotR a y) : anyR s n = false := by
  have ht : ∀ x ∈ og, FR (tvR n (fun j => y.getD j 0) ++ [(n, -1)]) (gI x) = 0 := fun x hx => by
    obtain ⟨a, c, sc, e⟩ := hc x hx
    rw [FR_app, FR_dot sc.2.1 hy sc.2.2]
    show _ + (((gI x n : Int) : Rat) * (-1) + 0) = 0
    rw [e]
    grind
  have hf := (h.fr ht).2
  unfold anyR
  rw [List.any_eq_false]
  intro r m
  have z := hf r m
  rw [FR_app, FR_tv_zero fun q hq => by rw [h.zn r m q hq]; show ((0 : Int) : Rat) * _ = 0; grind] at z
  have z : (0 : Rat) + (((gI r n : Int) : Rat) * (-1) + 0) = 0 := z
  have z2 : ((gI r n : Int) : Rat) = 0 := by grind
  have z3 : gI r n = 0 := by exact_mod_cast z2
  simp [z3]
end
theorem ker_none {fd : List IR} {pv : List Nat} {n : Nat} : kerR fd pv n = none ↔ ∀ c, c < n → c ∈ pv := by
  unfold kerR
  constructor
  · intro e c hc
    cases f : (List.range n).find? (fun c => decide (c ∉ pv)) with
    | none =>
      rw [List.find?_eq_none] at f
      have := f c (List.mem_range.mpr hc)
      simpa using this
    | some d => rw [f] at e; cases e
  · intro h
    have : (List.range n).find? (fun c => decide (c ∉ pv)) = none := by
      rw [List.find?_eq_none]
      intro c hc
      have := h c (List.mem_range.mp hc)
      simpa using this
    rw [this]
theorem full_len {pv : List Nat} {n : Nat} (nd : pv.Nodup) (lt : ∀ p ∈ pv, p < n) : (∀ c, c < n → c ∈ pv) ↔ pv.length = n := by
  have pm : pv.Perm ((List.range n).filter fun c => decide (c ∈ pv)) := by
    rw [List.perm_ext_iff_of_nodup nd (List.Pairwise.filter _ List.nodup_range)]
    intro a
    rw [List.mem_filter, List.mem_range]
    constructor
    · intro m; exact ⟨lt a m, by simpa using m⟩
    · intro m; simpa using m.2
  have e := pm.length_eq
  constructor
  · intro h
    rw [e, List.filter_eq_self.mpr fun c m => by simpa using h c (List.mem_range.mp m), List.length_range]
  · intro h c hc
    rw [h] at e
    have e2 : ((List.range n).filter fun c => decide (c ∈ pv)).length = (List.range n).length := by rw [← e, List.length_range]
    rw [List.length_filter_eq_length_iff] at e2
    have := e2 c (List.mem_range.mpr hc)
    simpa using this
end Cs
set_option maxHeartbeats 4000000
namespace Cs
/-! ### the law's rows -/
def B5 : Nat := 1019215872
abbrev QS (r : Rat) : Prop := QB 5 B5 r
theorem qs_gcd {r : Rat} (h : QS r) : ∃ (g : Nat) (z : Int), 0 < g ∧ r.den * g = 248832 ∧ r.num * (g : Int) = z ∧ z.natAbs ≤ B5 := by
  obtain ⟨z, hz, e⟩ := h
  have e : r = Rat.divInt z (248832 : Int) := e
  obtain ⟨e1, e2⟩ := divInt_pos z 248832 (by decide)
  have gp := gcd_pos z 248832 (by decide)
  have d1 := gcd_dvd_p z 248832
  have d2 := gcd_dvd_q z 248832
  rw [← e] at e1 e2
  refine ⟨Nat.gcd z.natAbs (248832 : Int).natAbs, z, by omega, ?_, ?_, hz⟩
  · have := Int.ediv_mul_cancel d2
    rw [← e2] at this
    generalize Nat.gcd z.natAbs (248832 : Int).natAbs = G at this ⊢
    have t : ((r.den * G : Nat) : Int) = 248832 := by rw [Int.natCast_mul]; exact this
    omega
  · rw [e1]
    exact Int.ediv_mul_cancel d1
theorem lcm_dvd_all {row : List Rat} (h : ∀ r ∈ row, QS r) : ∀ k, k ≤ row.length → lcmR (row.take k) ∣ 248832 ∧ ∀ j, j < k → ∀ r, row[j]? = some r → r.den ∣ lcmR (row.take k)
  | 0, _ => ⟨by show (1 : Nat) ∣ _; exact Nat.one_dvd _, fun j hj => by omega⟩
  | k + 1, hk => by
    obtain ⟨h1, h2⟩ := lcm_dvd_all h k (by omega)
    have hx : row[k]? = some row[k] := List.getElem?_eq_getElem hk
    obtain ⟨g, z, _, dg, _⟩ := qs_gcd (h _ (List.getElem_mem hk))
    rw [take_snoc hx, lcm_snoc]
    refine ⟨Nat.lcm_dvd h1 ⟨g, dg.symm⟩, fun j hj r hr => ?_⟩
    rcases Nat.lt_succ_iff_lt_or_eq.mp hj with c | rfl
    · exact Nat.dvd_trans (h2 j c r hr) (Nat.dvd_lcm_left _ _)
    · rw [hx] at hr
      rw [← Option.some.inj hr]
      exact Nat.dvd_lcm_right _ _
theorem lcm_pos {row : List Rat} (h : ∀ r ∈ row, QS r) : 0 < lcmR row ∧ lcmR row ∣ 248832 ∧ ∀ r ∈ row, r.den ∣ lcmR row := by
  obtain ⟨h1, h2⟩ := lcm_dvd_all h row.length (Nat.le_refl _)
  rw [List.take_length] at h1 h2
  refine ⟨Nat.pos_of_dvd_of_pos h1 (by decide), h1, fun r m => ?_⟩
  obtain ⟨j, hj⟩ := List.mem_iff_getElem?.mp m
  exact h2 j (List.getElem?_eq_some_iff.mp hj).1 r hj
theorem wh_item {r : Rat} (h : QS r) {c : Nat} (c1 : c ∣ 248832) (c2 : r.den ∣ c) : ((r.num * Int.fdiv (c : Int) (r.den : Int) : Int) : Rat) = (c : Rat) * r ∧ (r.num * Int.fdiv (c : Int) (r.den : Int)).natAbs < 2 ^ 30 := by
  obtain ⟨k, rfl⟩ := c2
  obtain ⟨g, z, g0, dg, ng, hz⟩ := qs_gcd h
  have dp : 0 < r.den := Nat.pos_of_ne_zero r.den_nz
  have e : Int.fdiv ((r.den * k : Nat) : Int) (r.den : Int) = (k : Int) := by
    rw [Int.natCast_mul, Int.mul_comm]
    exact Int.mul_fdiv_cancel _ (by omega)
  rw [e]
  have kg : k ≤ g := by
    obtain ⟨m, hm⟩ := c1
    rw [← dg, Nat.mul_assoc] at hm
    have := Nat.eq_of_mul_eq_mul_left dp hm
    refine Nat.le_of_dvd g0 ⟨m, this⟩
  refine ⟨?_, ?_⟩
  · have nd : ((r.num : Int) : Rat) / (r.den : Rat) = r := by
      have := Rat.num_divInt_den r
      rw [Rat.divInt_eq_div] at this
      exact this
    have d0 : (r.den : Rat) ≠ 0 := by exact_mod_cast r.den_nz
    rw [Rat.intCast_mul, Rat.natCast_mul]
    have : (r.num : Rat) = r * r.den := by rw [← nd]; grind
    rw [this]
    show r * (r.den : Rat) * (k : Rat) = _
    grind
  · refine Nat.lt_of_le_of_lt ?_ (show B5 < 2 ^ 30 by decide)
    refine Nat.le_trans ?_ hz
    rw [← ng, Int.natAbs_mul, Int.natAbs_mul, Int.natAbs_natCast, Int.natAbs_natCast]
    exact Nat.mul_le_mul_left _ kg
theorem wh_at {row : List Rat} (h : ∀ r ∈ row, QS r) : (∀ j, ((gI (whR row) j : Int) : Rat) = (lcmR row : Rat) * row.getD j 0) ∧ BdS 30 (whR row) ∧ (lcmR row : Rat) ≠ 0 := by
  obtain ⟨p, c1, c2⟩ := lcm_pos h
  refine ⟨fun j => ?_, fun j => ?_, by exact_mod_cast (show lcmR row ≠ 0 by omega)⟩
  · by_cases c : j < row.length
    · have hj : row[j]? = some row[j] := List.getElem?_eq_getElem c
      have e : gI (whR row) j = row[j].num * Int.fdiv (lcmR row : Int) (row[j].den : Int) := by unfold gI whR; rw [List.getD_eq_getElem?_getD, List.getElem?_map, hj]; rfl
      have e2 : row.getD j 0 = row[j] := by rw [List.getD_eq_getElem?_getD, hj]; rfl
      rw [e, e2]
      exact (wh_item (h _ (List.getElem_mem c)) c1 (c2 _ (List.getElem_mem c))).1
    · rw [gI_out (by rw [whR_len]; omega), List.getD_eq_getElem?_getD, List.getElem?_eq_none (by omega)]
      show ((0 : Int) : Rat) = _ * 0
      grind
  · by_cases c : j < row.length
    · have hj : row[j]? = some row[j] := List.getElem?_eq_getElem c
      have e : gI (whR row) j = row[j].num * Int.fdiv (lcmR row : Int) (row[j].den : Int) := by unfold gI whR; rw [List.getD_eq_getElem?_getD, List.getElem?_map, hj]; rfl
      rw [e]
      exact (wh_item (h _ (List.getElem_mem c)) c1 (c2 _ (List.getElem_mem c))).2
    · rw [gI_out (by rw [whR_len]; omega)]
      exact Nat.two_pow_pos _
theorem wh_ok {row : List Rat} (h : ∀ r ∈ row, QS r) (l : row.length ≤ 10) : WhOk row := by
  refine ⟨l, fun r m => ?_, fun k hk => ?_, fun r m => ?_⟩
  · obtain ⟨g, z, g0, dg, _⟩ := qs_gcd (h r m)
    have : r.den ≤ 248832 := Nat.le_of_dvd (by decide) ⟨g, dg.symm⟩
    omega
  · have := Nat.le_of_dvd (by decide) (lcm_dvd_all h k hk).1
    omega
  · obtain ⟨g, z, g0, dg, ng, hz⟩ := qs_gcd (h r m)
    refine Nat.lt_of_le_of_lt (Nat.le_trans ?_ hz) (show B5 < 2 ^ 2000 from Nat.lt_of_lt_of_le (show B5 < 2 ^ 30 by decide) (Nat.pow_le_pow_right (by decide) (by decide)))
    rw [← ng, Int.natAbs_mul, Int.natAbs_natCast]
    exact Nat.le_mul_of_pos_right _ g0
theorem qs_0 : QS 0 := ⟨0, by decide, by rw [Rat.divInt_eq_div]; grind⟩
theorem qs_1 : QS 1 := ⟨248832, by decide, by decide +kernel⟩
theorem qs_sz {r : Rat} (h : QS r) : Sz 31 r := by
  obtain ⟨z, hz, rfl⟩ := h
  exact sz_div (by decide) (Nat.lt_of_le_of_lt hz (by decide)) (by decide)
structure RowsOk (rows : List (List Rat)) (n : Nat) : Prop where
  n4 : n ≤ 4
  n1 : 1 ≤ n
  rl : rows.length = n
  wl : ∀ r ∈ rows, r.length = n
  qs : ∀ r ∈ rows, ∀ q ∈ r, QS q
structure SidOk (sides : List Rat) (n : Nat) : Prop where
  sl : sides.length = n
  qs : ∀ q ∈ sides, QS q
section
variable {rows : List (List Rat)} {sides : List Rat} {n : Nat}
theorem RowsOk.tab (h : RowsOk rows n) : ∀ x ∈ rows.map whR, x.length = n ∧ BdS 30 x := fun x m => by
  obtain ⟨r, hr, rfl⟩ := List.mem_map.mp m
  exact ⟨by rw [whR_len]; exact h.wl r hr, (wh_at (h.qs r hr)).2.1⟩
theorem bes_tab {rs : List (List Rat)} {ss : List Rat} {m : Nat} (h : ∀ r ∈ rs, r.length = m ∧ ∀ q ∈ r, QS q) (hs : ∀ q ∈ ss, QS q) : ∀ x ∈ besR rs ss, x.length = m + 1 ∧ BdS 30 x := fun x mx => by
  obtain ⟨p, hp, rfl⟩ := List.mem_map.mp mx
  obtain ⟨a1, a2⟩ := List.of_mem_zip (a := p.1) (b := p.2) hp
  have q : ∀ r ∈ p.1 ++ [p.2], QS r := fun r hr => by
    rcases List.mem_append.mp hr with z | z
    · exact (h _ a1).2 r z
    · rw [List.mem_singleton.mp z]; exact hs _ a2
  exact ⟨by rw [whR_len, List.length_append, (h _ a1).1]; rfl, (wh_at q).2.1⟩
theorem bes_ok {rs : List (List Rat)} {ss : List Rat} {m : Nat} (hl : rs.length ≤ 10) (m9 : m ≤ 9) (h : ∀ r ∈ rs, r.length = m ∧ ∀ q ∈ r, QS q) (hs : ∀ q ∈ ss, QS q) : BesOk rs ss := ⟨hl, fun p hp => by
  obtain ⟨a1, a2⟩ := List.of_mem_zip (a := p.1) (b := p.2) hp
  refine wh_ok (fun r hr => ?_) ?_
  · rcases List.mem_append.mp hr with z | z
    · exact (h _ a1).2 r z
    · rw [List.mem_singleton.mp z]; exact hs _ a2
  · rw [List.length_append, (h _ a1).1]; show m + 1 ≤ 10; omega⟩
theorem RowsOk.kt (h : RowsOk rows n) : TabK (rows.map whR) n := by
  have := h.n4
  exact tab_okK (by rw [List.length_map, h.rl]; omega) h.tab (Nat.le_refl _) (by omega)
theorem RowsOk.bl (h : RowsOk rows n) (g : SidOk sides n) : (besR rows sides).length = n := by unfold besR; rw [List.length_map, List.length_zip, h.rl, g.sl]; omega
theorem RowsOk.fac (h : RowsOk rows n) (g : SidOk sides n) : FacOk rows sides n := by
  have n4 := h.n4
  have tl : (turnR rows n).length = n := by unfold turnR; rw [List.length_map, List.length_range]
  have ha : ∀ r ∈ turnR rows n ++ [sides], r.length = n ∧ ∀ q ∈ r, QS q := fun r m => by
    rcases List.mem_append.mp m with z | z
    · obtain ⟨c, hc, rfl⟩ := List.mem_map.mp z
      refine ⟨by rw [List.length_map]; exact h.rl, fun q mq => ?_⟩
      obtain ⟨r0, m0, rfl⟩ := List.mem_map.mp mq
      exact h.qs r0 m0 _ (getD_mem (by rw [h.wl r0 m0]; exact List.mem_range.mp hc))
    · rw [List.mem_singleton.mp z]; exact ⟨g.sl, g.qs⟩
  have hb : ∀ q ∈ List.replicate n (0 : Rat) ++ [1], QS q := fun q m => by
    rcases List.mem_append.mp m with z | z
    · rw [List.eq_of_mem_replicate z]; exact qs_0
    · rw [List.mem_singleton.mp z]; exact qs_1
  refine ⟨by rw [h.rl]; omega, by omega, h.wl, bes_ok (m := n) (by rw [List.length_append, tl]; show n + 1 ≤ 10; omega) (by omega) ha hb, ?_⟩
  rw [h.rl]
  refine tab_ok (w := n + 1) ?_ (bes_tab ha hb) (by omega) (by omega)
  unfold askR besR
  rw [List.length_map, List.length_zip, List.length_append, tl, List.length_append, List.length_replicate]
  show min (n + 1) (n + 1) ≤ 5
  omega
theorem RowsOk.sol (h : RowsOk rows n) (g : SidOk sides n) : SolOk rows sides n := by
  have n4 := h.n4
  have ha : ∀ r ∈ rows, r.length = n ∧ ∀ q ∈ r, QS q := fun r m => ⟨h.wl r m, h.qs r m⟩
  refine ⟨bes_ok (m := n) (by rw [h.rl]; omega) (by omega) ha g.qs, tab_ok (w := n + 1) (by rw [h.bl g]; omega) (bes_tab ha g.qs) (by omega) (by omega), fun _ => h.fac g⟩
/-! ### what the answers come to -/
theorem RowsOk.ei (h : RowsOk rows n) : ∃ l xs, EI n (rows.map whR) n (ech (rows.map whR) n) l xs := ei_all (fun r m => (h.tab r m).1) (by rw [List.length_map, h.rl]; exact h.n4) n (Nat.le_refl _)
theorem RowsOk.eib (h : RowsOk rows n) (g : SidOk sides n) : ∃ l xs, EI (n + 1) (besR rows sides) n (ech (besR rows sides) n) l xs := ei_all (fun r m => (bes_tab (fun r m => ⟨h.wl r m, h.qs r m⟩) g.qs r m).1) (by rw [h.bl g]; exact h.n4) n (by omega)
theorem RowsOk.scl (h : RowsOk rows n) {a : List Rat} (m : a ∈ rows) : Scl n (whR a) a (lcmR a : Rat) := ⟨(wh_at (h.qs a m)).2.2, h.wl a m, fun j _ => (wh_at (h.qs a m)).1 j⟩
theorem RowsOk.sclb (h : RowsOk rows n) (g : SidOk sides n) {a : List Rat} {b : Rat} (m : (a, b) ∈ rows.zip sides) : Scl n (whR (a ++ [b])) a (lcmR (a ++ [b]) : Rat) ∧ ((gI (whR (a ++ [b])) n : Int) : Rat) = (lcmR (a ++ [b]) : Rat) * b := by
  obtain ⟨a1, a2⟩ := List.of_mem_zip m
  have q : ∀ r ∈ a ++ [b], QS r := fun r hr => by
    rcases List.mem_append.mp hr with z | z
    · exact h.qs a a1 r z
    · rw [List.mem_singleton.mp z]; exact g.qs _ a2
  obtain ⟨w1, _, w3⟩ := wh_at q
  have al := h.wl a a1
  refine ⟨⟨w3, al, fun j hj => ?_⟩, ?_⟩
  · rw [w1, List.getD_eq_getElem?_getD, List.getD_eq_getElem?_getD, List.getElem?_append_left (by omega)]
  · rw [w1, List.getD_eq_getElem?_getD, List.getElem?_append_right (by omega), al, Nat.sub_self]; rfl
theorem zip_has (h : RowsOk rows n) (g : SidOk sides n) {a : List Rat} (m : a ∈ rows) : ∃ b, (a, b) ∈ rows.zip sides := by
  obtain ⟨i, hi⟩ := List.mem_iff_getElem?.mp m
  have il := (List.getElem?_eq_some_iff.mp hi).1
  have sl : i < sides.length := by rw [g.sl, ← h.rl]; exact il
  exact ⟨sides[i], List.mem_iff_getElem?.mpr ⟨i, by rw [List.getElem?_zip_eq_some]; exact ⟨hi, List.getElem?_eq_getElem sl⟩⟩⟩
theorem rat01 {r : Rat} (h : r = 1) (g : r = 0) : False := by rw [h] at g; exact absurd g (by decide +kernel)
/-- both tables have a kernel or none has -/
theorem RowsOk.same (h : RowsOk rows n) (g : SidOk sides n) : kerR (ech (rows.map whR) n).fd (ech (rows.map whR) n).pv n = none ↔ kerR (ech (besR rows sides) n).fd (ech (besR rows sides) n).pv n = none := by
  obtain ⟨l, xs, E⟩ := h.ei
  obtain ⟨l', xs', E'⟩ := h.eib g
  constructor
  · intro e
    cases e' : kerR (ech (besR rows sides) n).fd (ech (besR rows sides) n).pv n with
    | none => rfl
    | some v =>
      obtain ⟨vl, ⟨c, hc, v1⟩, hv⟩ := E'.ker e'
      have z : v.getD c 0 = 0 := E.triv (ker_none.mp e) (v := fun j => v.getD j 0) (fun x hx => by
        obtain ⟨a, ha, rfl⟩ := List.mem_map.mp hx
        obtain ⟨b, hb⟩ := zip_has h g ha
        rw [FR_dot (h.wl a ha) vl (h.scl ha).2.2, hv (whR (a ++ [b])) (List.mem_map.mpr ⟨(a, b), hb, rfl⟩) a _ (h.sclb g hb).1]
        grind) n c hc (by omega)
      exact (rat01 v1 z).elim
  · intro e
    cases e' : kerR (ech (rows.map whR) n).fd (ech (rows.map whR) n).pv n with
    | none => rfl
    | some v =>
      obtain ⟨vl, ⟨c, hc, v1⟩, hv⟩ := E.ker e'
      have z : v.getD c 0 = 0 := E'.triv (ker_none.mp e) (v := fun j => v.getD j 0) (fun x hx => by
        obtain ⟨p, hp, rfl⟩ := List.mem_map.mp hx
        obtain ⟨a, b⟩ := p
        have ha := (List.of_mem_zip hp).1
        rw [FR_dot (h.wl a ha) vl (h.sclb g hp).1.2.2, hv (whR a) (List.mem_map.mpr ⟨a, ha, rfl⟩) a _ (h.scl ha)]
        grind) n c hc (by omega)
      exact (rat01 v1 z).elim
theorem RowsOk.rank (h : RowsOk rows n) : kerR (ech (rows.map whR) n).fd (ech (rows.map whR) n).pv n = none ↔ (ech (rows.map whR) n).pv.length = n := by
  obtain ⟨l, xs, E⟩ := h.ei
  rw [ker_none, full_len E.nd E.lt']
theorem RowsOk.ker (h : RowsOk rows n) {v : List Rat} (e : kerR (ech (rows.map whR) n).fd (ech (rows.map whR) n).pv n = some v) : v.length = n ∧ (∃ c, c < n ∧ v.getD c 0 = 1) ∧ ∀ a ∈ rows, dotR a v = 0 := by
  obtain ⟨l, xs, E⟩ := h.ei
  obtain ⟨vl, c, hv⟩ := E.ker e
  exact ⟨vl, c, fun a ha => hv (whR a) (List.mem_map.mpr ⟨a, ha, rfl⟩) a _ (h.scl ha)⟩
/-- no kernel: exactly one solution -/
theorem RowsOk.one (h : RowsOk rows n) (g : SidOk sides n) (e : kerR (ech (rows.map whR) n).fd (ech (rows.map whR) n).pv n = none) : ∃ v, solR rows sides n = .one v := by
  obtain ⟨l', xs', E'⟩ := h.eib g
  have e' := (h.same g).mp e
  have full := (full_len E'.nd E'.lt').mp (ker_none.mp e')
  have rs0 : (ech (besR rows sides) n).rs = [] := by
    refine List.eq_nil_of_length_eq_zero ?_
    rw [E'.rl]
    have := E'.pm.length_eq
    rw [List.length_append, List.length_map, h.bl g, ← E'.fl, ← E'.pl, full] at this
    omega
  have a0 : anyR (ech (besR rows sides) n) n = false := by unfold anyR; rw [rs0]; rfl
  refine ⟨valR (ech (besR rows sides) n) n, ?_⟩
  unfold solR solS
  rw [a0, e']
  rfl
theorem RowsOk.notOne (h : RowsOk rows n) (g : SidOk sides n) (e : kerR (ech (rows.map whR) n).fd (ech (rows.map whR) n).pv n ≠ none) : ∀ v, solR rows sides n ≠ .one v := by
  intro v e2
  unfold solR solS at e2
  split at e2
  · cases e2
  · cases k : kerR (ech (besR rows sides) n).fd (ech (besR rows sides) n).pv n with
    | none => exact e ((h.same g).mpr k)
    | some w => rw [k] at e2; cases e2
def Sol.isNone : Sol → Bool
  | .none _ => true
  | _ => false
def Sol.vl : Sol → List Rat
  | .none f => f
  | .one v => v
  | .several v _ => v
theorem solS_vl {s : Sy} {f : List Rat} (e : (solS s n f).isNone = false) : anyR s n = false ∧ (solS s n f).vl = valR s n := by
  unfold solS at e ⊢
  cases a : anyR s n with
  | true => rw [a] at e; cases e
  | false =>
    refine ⟨rfl, ?_⟩
    rw [if_neg (by simp)]
    split <;> rfl
theorem RowsOk.val (h : RowsOk rows n) (g : SidOk sides n) (e : (solR rows sides n).isNone = false) : (solR rows sides n).vl.length = n ∧ ∀ p ∈ rows.zip sides, dotR p.1 (solR rows sides n).vl = p.2 := by
  obtain ⟨l', xs', E'⟩ := h.eib g
  obtain ⟨a0, ve⟩ := solS_vl e
  obtain ⟨vl, hv⟩ := E'.val a0
  have ve : (solR rows sides n).vl = valR (ech (besR rows sides) n) n := ve
  rw [ve]
  refine ⟨vl, fun p hp => ?_⟩
  obtain ⟨a, b⟩ := p
  obtain ⟨s1, s2⟩ := h.sclb g hp
  exact hv (whR (a ++ [b])) (List.mem_map.mpr ⟨(a, b), hp, rfl⟩) a _ b s1 s2
theorem RowsOk.cons (h : RowsOk rows n) (g : SidOk sides n) {y : List Rat} (hy : y.length = n) (e : sides = rows.map fun a => dotR a y) : (solR rows sides n).isNone = false := by
  obtain ⟨l', xs', E'⟩ := h.eib g
  have a0 := E'.any hy fun x hx => by
    obtain ⟨p, hp, rfl⟩ := List.mem_map.mp hx
    obtain ⟨a, b⟩ := p
    obtain ⟨s1, s2⟩ := h.sclb g hp
    refine ⟨a, _, s1, ?_⟩
    have : b = dotR a y := by
      obtain ⟨i, hi⟩ := List.mem_iff_getElem?.mp hp
      rw [List.getElem?_zip_eq_some] at hi
      obtain ⟨h1, h2⟩ := hi
      rw [e, List.getElem?_map, h1] at h2
      exact (Option.some.inj h2).symm
    rw [← this]
    exact s2
  unfold solR solS
  rw [if_neg (by rw [a0]; simp)]
  split <;> rfl
end
end Cs
set_option maxHeartbeats 4000000
namespace Cs
/-! ### sizes of the answers -/
theorem up_lt {i : Int} {a b : Nat} (h : i.natAbs < 2 ^ a) (k : a ≤ b) : i.natAbs < 2 ^ b := Nat.lt_of_lt_of_le h (Nat.pow_le_pow_right (by decide) k)
theorem d2_lt {a b c d : Int} (h1 : a.natAbs < 2 ^ 30) (h2 : b.natAbs < 2 ^ 30) (h3 : c.natAbs < 2 ^ 30) (h4 : d.natAbs < 2 ^ 30) : (a * b - c * d).natAbs < 2 ^ 61 := sub_lt (pow_lt h1 h2) (pow_lt h3 h4)
theorem D3_lt {a b c a2 b2 c2 a3 b3 c3 : Int} (h1 : a.natAbs < 2 ^ 30) (h2 : b.natAbs < 2 ^ 30) (h3 : c.natAbs < 2 ^ 30) (h4 : a2.natAbs < 2 ^ 30) (h5 : b2.natAbs < 2 ^ 30) (h6 : c2.natAbs < 2 ^ 30) (h7 : a3.natAbs < 2 ^ 30) (h8 : b3.natAbs < 2 ^ 30) (h9 : c3.natAbs < 2 ^ 30) : (D3f a b c a2 b2 c2 a3 b3 c3).natAbs < 2 ^ 93 := by
  unfold D3f
  exact add_lt (sub_lt (pow_lt h1 (d2_lt h5 h9 h6 h8)) (pow_lt h2 (d2_lt h4 h9 h6 h7))) (up_lt (pow_lt h3 (d2_lt h4 h8 h5 h7)) (by decide))
theorem D4_lt {a b c d a2 b2 c2 d2 a3 b3 c3 d3 a4 b4 c4 d4 : Int} (h1 : a.natAbs < 2 ^ 30) (h2 : b.natAbs < 2 ^ 30) (h3 : c.natAbs < 2 ^ 30) (h4 : d.natAbs < 2 ^ 30) (i1 : a2.natAbs < 2 ^ 30) (i2 : b2.natAbs < 2 ^ 30) (i3 : c2.natAbs < 2 ^ 30) (i4 : d2.natAbs < 2 ^ 30) (j1 : a3.natAbs < 2 ^ 30) (j2 : b3.natAbs < 2 ^ 30) (j3 : c3.natAbs < 2 ^ 30) (j4 : d3.natAbs < 2 ^ 30) (k1 : a4.natAbs < 2 ^ 30) (k2 : b4.natAbs < 2 ^ 30) (k3 : c4.natAbs < 2 ^ 30) (k4 : d4.natAbs < 2 ^ 30) : (D4f a b c d a2 b2 c2 d2 a3 b3 c3 d3 a4 b4 c4 d4).natAbs < 2 ^ 126 := by
  unfold D4f
  exact sub_lt (add_lt (sub_lt (pow_lt h1 (D3_lt i2 i3 i4 j2 j3 j4 k2 k3 k4)) (pow_lt h2 (D3_lt i1 i3 i4 j1 j3 j4 k1 k3 k4))) (up_lt (pow_lt h3 (D3_lt i1 i2 i4 j1 j2 j4 k1 k2 k4)) (by decide))) (up_lt (pow_lt h4 (D3_lt i1 i2 i3 j1 j2 j3 k1 k2 k3)) (by decide))
theorem crm_lt {l : Pvs} (k : l.length ≤ 4) (hb : ∀ p ∈ l, ∀ j, (p.1 j).natAbs < 2 ^ 30) (j : Nat) : (∀ z ∈ crm l j, z.natAbs < 2 ^ 126) ∧ (PvL l).natAbs < 2 ^ 126 := by
  match l, k, hb with
  | [], _, _ => exact ⟨fun z m => (nomatch m), (by show (1 : Int).natAbs < 2 ^ 126; decide)⟩
  | [(h, a)], _, hb =>
    have b1 : ∀ j, (h j).natAbs < 2 ^ 30 := hb (h, a) (by simp)
    refine ⟨fun z m => ?_, up_lt (b1 a) (by decide)⟩
    rw [List.mem_singleton.mp m]
    exact up_lt (b1 j) (by decide)
  | [(h, a), (g, b)], _, hb =>
    have b1 : ∀ j, (h j).natAbs < 2 ^ 30 := hb (h, a) (by simp)
    have b2 : ∀ j, (g j).natAbs < 2 ^ 30 := hb (g, b) (by simp)
    refine ⟨fun z m => ?_, up_lt (d2_lt (b1 a) (b2 b) (b1 b) (b2 a)) (by decide)⟩
    have m : z ∈ [h j * g b - h b * g j, h a * g j - h j * g a] := m
    simp only [List.mem_cons, List.not_mem_nil, or_false] at m
    rcases m with rfl | rfl
    · exact up_lt (d2_lt (b1 j) (b2 b) (b1 b) (b2 j)) (by decide)
    · exact up_lt (d2_lt (b1 a) (b2 j) (b1 j) (b2 a)) (by decide)
  | [(h, a), (g, b), (f, c)], _, hb =>
    have b1 : ∀ j, (h j).natAbs < 2 ^ 30 := hb (h, a) (by simp)
    have b2 : ∀ j, (g j).natAbs < 2 ^ 30 := hb (g, b) (by simp)
    have b3 : ∀ j, (f j).natAbs < 2 ^ 30 := hb (f, c) (by simp)
    have t : ∀ x y z : Nat, (D3f (h x) (h y) (h z) (g x) (g y) (g z) (f x) (f y) (f z)).natAbs < 2 ^ 126 := fun x y z => up_lt (D3_lt (b1 x) (b1 y) (b1 z) (b2 x) (b2 y) (b2 z) (b3 x) (b3 y) (b3 z)) (by decide)
    refine ⟨fun z m => ?_, t a b c⟩
    have m : z ∈ [D3f (h j) (h b) (h c) (g j) (g b) (g c) (f j) (f b) (f c), D3f (h a) (h j) (h c) (g a) (g j) (g c) (f a) (f j) (f c), D3f (h a) (h b) (h j) (g a) (g b) (g j) (f a) (f b) (f j)] := m
    simp only [List.mem_cons, List.not_mem_nil, or_false] at m
    rcases m with rfl | rfl | rfl
    · exact t j b c
    · exact t a j c
    · exact t a b j
  | [(h, a), (g, b), (f, c), (e, d)], _, hb =>
    have b1 : ∀ j, (h j).natAbs < 2 ^ 30 := hb (h, a) (by simp)
    have b2 : ∀ j, (g j).natAbs < 2 ^ 30 := hb (g, b) (by simp)
    have b3 : ∀ j, (f j).natAbs < 2 ^ 30 := hb (f, c) (by simp)
    have b4 : ∀ j, (e j).natAbs < 2 ^ 30 := hb (e, d) (by simp)
    have t : ∀ x y z u : Nat, (D4f (h x) (h y) (h z) (h u) (g x) (g y) (g z) (g u) (f x) (f y) (f z) (f u) (e x) (e y) (e z) (e u)).natAbs < 2 ^ 126 := fun x y z u => D4_lt (b1 x) (b1 y) (b1 z) (b1 u) (b2 x) (b2 y) (b2 z) (b2 u) (b3 x) (b3 y) (b3 z) (b3 u) (b4 x) (b4 y) (b4 z) (b4 u)
    refine ⟨fun z m => ?_, t a b c d⟩
    have m : z ∈ [D4f (h j) (h b) (h c) (h d) (g j) (g b) (g c) (g d) (f j) (f b) (f c) (f d) (e j) (e b) (e c) (e d), D4f (h a) (h j) (h c) (h d) (g a) (g j) (g c) (g d) (f a) (f j) (f c) (f d) (e a) (e j) (e c) (e d), D4f (h a) (h b) (h j) (h d) (g a) (g b) (g j) (g d) (f a) (f b) (f j) (f d) (e a) (e b) (e j) (e d), D4f (h a) (h b) (h c) (h j) (g a) (g b) (g c) (g j) (f a) (f b) (f c) (f j) (e a) (e b) (e c) (e j)] := m
    simp only [List.mem_cons, List.not_mem_nil, or_false] at m
    rcases m with rfl | rfl | rfl | rfl
    · exact t j b c d
    · exact t a j c d
    · exact t a b j d
    · exact t a b c j
section
variable {w n : Nat} {og : List IR} {s : Sy} {l : Lp} {xs : List IR}
theorem EI.sz (h : EI w og n s l xs) (hb : ∀ x ∈ og, BdS 30 x) {col : Nat} (hz : ∀ r ∈ s.rs, gI r col = 0) : ∀ r ∈ endR s.fd s.pv col, Sz 130 r := by
  intro r m
  unfold endR at m
  split at m
  · cases m
  · rename_i f0
    obtain ⟨z, hz', rfl⟩ := List.mem_map.mp m
    have W0 := h.W0
    obtain ⟨c1, c2⟩ := crm_lt h.len (fun p hp => by
      obtain ⟨q, hq, rfl⟩ := List.mem_map.mp hp
      exact hb q.1 (h.pm.mem_iff.mpr (List.mem_append_left _ (List.mem_map.mpr ⟨q, hq, rfl⟩)))) col
    unfold endN at hz'
    rw [h.lst f0, (h.cram hz).1] at hz'
    rw [h.lst f0]
    exact (sz_div W0 (c1 z hz') c2).mono (by decide)
end
theorem fold_mem {l : List (Rat × Nat)} : ∀ {u : List Rat} {r : Rat}, r ∈ l.foldl (fun a p => a.set p.2 p.1) u → r ∈ u ∨ r ∈ l.map (·.1) := by
  induction l with
  | nil => intro u r m; exact .inl m
  | cons p l ih =>
    intro u r m
    rw [List.foldl_cons] at m
    rcases ih m with z | z
    · rcases List.mem_or_eq_of_mem_set z with q | q
      · exact .inl q
      · exact .inr (by rw [List.map_cons, q]; exact List.mem_cons_self ..)
    · exact .inr (List.mem_cons_of_mem _ z)
theorem spr_sz {vals : List Rat} {pv : List Nat} {n b : Nat} (h : ∀ r ∈ vals, Sz b r) (b0 : 0 < b) : ∀ r ∈ sprD vals pv n, Sz b r := fun r m => by
  rcases fold_mem m with z | z
  · rw [List.eq_of_mem_replicate z]; exact sz_zero b0
  · obtain ⟨p, hp, rfl⟩ := List.mem_map.mp z
    exact h _ (List.of_mem_zip (a := p.1) (b := p.2) hp).1
theorem sz_negS {n : Nat} {r : Rat} (h : Sz n r) : Sz n (-r) := ⟨by show (-r.num).natAbs < _; rw [Int.natAbs_neg]; exact h.1, h.2⟩
section
variable {rows : List (List Rat)} {sides : List Rat} {n : Nat}
theorem RowsOk.kerSz (h : RowsOk rows n) {v : List Rat} (e : kerR (ech (rows.map whR) n).fd (ech (rows.map whR) n).pv n = some v) : ∀ r ∈ v, Sz 130 r := by
  obtain ⟨l, xs, E⟩ := h.ei
  unfold kerR at e
  cases f : (List.range n).find? (fun c => decide (c ∉ (ech (rows.map whR) n).pv)) with
  | none => rw [f] at e; cases e
  | some c =>
    rw [f] at e
    have ev := Option.some.inj e
    have cm := List.mem_range.mp (List.mem_of_find?_eq_some f)
    intro r m
    rw [← ev] at m
    rcases List.mem_or_eq_of_mem_set m with q | q
    · refine spr_sz (fun r m => ?_) (by decide) r q
      obtain ⟨r0, m0, rfl⟩ := List.mem_map.mp m
      exact sz_negS (E.sz (fun x hx => (h.tab x hx).2) (fun r m => E.zn r m c cm) r0 m0)
    · rw [q]; exact (qs_sz qs_1).mono (by decide)
theorem RowsOk.valSz (h : RowsOk rows n) (g : SidOk sides n) (e : (solR rows sides n).isNone = false) : ∀ r ∈ (solR rows sides n).vl, Sz 130 r := by
  obtain ⟨l', xs', E'⟩ := h.eib g
  obtain ⟨a0, ve⟩ := solS_vl e
  have ve : (solR rows sides n).vl = valR (ech (besR rows sides) n) n := ve
  rw [ve]
  unfold valR
  refine spr_sz (E'.sz (fun x hx => (bes_tab (fun r m => ⟨h.wl r m, h.qs r m⟩) g.qs x hx).2) fun r m => ?_) (by decide)
  unfold anyR at a0
  rw [List.any_eq_false] at a0
  have := a0 r m
  simpa using this
def movR (n : Nat) (x : List Rat) (f : Rat) (y : List Rat) : List Rat := (List.range n).map fun k => x.getD k 0 + f * y.getD k 0
theorem dot_mov {f : Rat} : ∀ {a x y : List Rat}, x.length = a.length → y.length = a.length → dotR a (movR a.length x f y) = dotR a x + f * dotR a y
  | [], _, _, _, _ => by show (0 : Rat) = 0 + f * 0; grind
  | a :: as, x :: xs, y :: ys, h1, h2 => by
    have ih := dot_mov (f := f) (a := as) (x := xs) (y := ys) (by simpa using h1) (by simpa using h2)
    have e : movR (a :: as).length (x :: xs) f (y :: ys) = (x + f * y) :: movR as.length xs f ys := by
      unfold movR
      rw [List.length_cons, List.range_succ_eq_map, List.map_cons, List.map_map]
      rfl
    rw [e, dot_cons, dot_cons, dot_cons, ih]
    grind
theorem mov_sz {x y : List Rat} {f : Rat} (hx : ∀ r ∈ x, Sz 130 r) (hy : ∀ r ∈ y, Sz 130 r) (hf : Sz 41 f) : ∀ r ∈ movR n x f y, Sz 720 r := fun r m => by
  obtain ⟨k, _, rfl⟩ := List.mem_map.mp m
  have g : ∀ {z : List Rat}, (∀ r ∈ z, Sz 130 r) → Sz 130 (z.getD k 0) := fun {z} hz => by
    by_cases c : k < z.length
    · exact hz _ (getD_mem c)
    · rw [List.getD_eq_getElem?_getD, List.getElem?_eq_none (by omega)]; exact sz_zero (by decide)
  exact (szA2 (g hx) (szM2 hf (g hy))).mono (by decide)
theorem okV_of (h : RowsOk rows n) {vals : List Rat} (e : ∀ p ∈ rows.zip sides, dotR p.1 vals = p.2) : ((rows.zip sides).all fun p => decide (dotR p.1 vals = p.2)) = true := by
  rw [List.all_eq_true]
  intro p m
  exact decide_eq_true (e p m)
end
end Cs
set_option maxHeartbeats 4000000
namespace Cs
open PySem PySem.Spec PyProof.Rows L2
local macro_rules | `(tactic| walk_at "rd") => `(tactic| (first
  | (refine ⟨_, rfl, ?_⟩)
  | (refine ⟨_, _, rfl, rfl, ?_⟩)
  | (refine .inl ⟨_, rfl, ?_⟩)
  | (refine .inr ⟨_, rfl, ?_⟩)
  | (refine ⟨_, _, _, _, rfl, rfl, SqL.of upd_same, rfl, ?_⟩)
  | (refine ⟨_, _, _, _, rfl, rfl, upd_same, rfl, ?_⟩)
  | (refine ⟨_, ?xs, _, ?v, rfl, rfl, ?h, ?x, ?_⟩; (case h => first | exact SqL.of (by assumption) | exact SqT.of (by assumption) | assumption); (case x => first | rfl | exact atI_nat (j := 0) rfl | exact atI_nat (j := 1) rfl))))
local macro_rules | `(tactic| walk_at "isi") => `(tactic| (first
  | (refine ⟨_, _, _, _, _, rfl, .ty _, .base (.int _), kit_ty kit_it, ?_⟩)
  | (refine ⟨_, _, _, _, _, rfl, .ty _, .base (.int _), kit_ty kit_ib, ?_⟩)
  | (refine ⟨_, _, _, _, _, rfl, .ty _, .base (.int _), kit_ty kit_ii, ?_⟩)
  | (refine ⟨_, _, _, _, _, rfl, .ty _, .base (.bl _), kit_ty kit_bt, ?_⟩)
  | (refine ⟨_, _, _, _, _, rfl, .ty _, .base (.bl _), kit_ty kit_bb, ?_⟩)
  | (refine ⟨_, _, _, _, _, rfl, .ty _, .base (.bl _), kit_ty kit_bi, ?_⟩)))
local macro_rules | `(tactic| walk_at "ev") => `(tactic| (first
  | exact ev_var rfl
  | exact ev_int
  | exact ev_str
  | exact ev_bl
  | exact ev_non
  | (refine ev_add ?_ ?_ <;> walk_at "ev")
  | (refine ev_sub ?_ ?_ <;> walk_at "ev")
  | (refine ev_mul ?_ ?_ ?_ <;> (try walk_at "ev"))
  | (refine ev_neg ?_ <;> walk_at "ev")
  | (refine ev_num ?_ <;> walk_at "ev")
  | (refine ev_den ?_ <;> walk_at "ev")
  | (refine ev_cmp ?_ ?_ <;> walk_at "ev")
  | (refine ev_eqI ?_ ?_ <;> walk_at "ev")
  | (refine ev_eqS ?_ ?_ <;> walk_at "ev")
  | (refine ev_neI ?_ ?_ <;> walk_at "ev")
  | (refine ev_neS ?_ ?_ <;> walk_at "ev")
  | (refine ev_inS ?_ ?_ <;> walk_at "ev")
  | (refine ev_niS ?_ ?_ <;> walk_at "ev")
  | (refine ev_len ?_ <;> walk_at "ev")
  | (refine ev_list ?_ <;> walk_at "ev")
  | (refine ev_listRev ?_ <;> walk_at "ev")
  | (refine ev_int1 ?_ <;> walk_at "ev")))
local macro_rules | `(tactic| walk_at "ea") => `(tactic| (first
  | exact ea_nil
  | (refine ea_cons ?_ ?_ <;> (first | walk_at "ev" | walk_at "ea" | skip))))
local macro_rules | `(tactic| walk_at "sb") => `(tactic| (first | exact True.intro | (refine And.intro rfl ?_; walk_at "sb")))
local macro_rules | `(tactic| walk_at "subt") => `(tactic| repeat (first | exact List.nil_sublist _ | apply List.Sublist.cons₂ | apply List.Sublist.cons))
section
variable {P : Program} {w : World} {K : PySem.W.Frag} {mg : Str → Option Value} {base : Heap}
abbrev sSame : Stmt := topS 40
theorem scSame : FnScope ["actual", "due", "k"] ["actual", "due"] (defScope sSame) := ⟨rfl, rfl, rfl, by decide +kernel, rfl, by decide +kernel, by decide +kernel⟩
theorem ok_same0 {f : Addr} {fd : FuncData} {k : Nat} (F : Fun K "_law_same" "_law_same" sSame f fd) (z_isinstance : mg "isinstance" = none) (z_int : mg "int" = none) (z_bool : mg "bool" = none) (z_tuple : mg "tuple" = none) (z_str : mg "str" = none) : FnOk P w K mg base CX0 (k + 1) f fd ["actual", "due"] spSame0 := by
  refine F.ok scSame (fun vs H Q E h => ?_) (fun cdv A outer s H vs Q E hr h => ?_)
  · rcases h with ⟨i, j, rfl, _⟩ | ⟨i, j, rfl, _⟩ <;> rfl
  · refine ⟨_, (pss_cons (ps_if (pt_val (pe_callB call_isi (by rfl) z_isinstance (by decide +kernel) (pa_cons (pv 1) (pa_cons (pe_bltn (v := .ty "tuple") (by rfl) z_tuple (by decide +kernel) rfl) pa_nil)))) pss_never pss_nil)
      (pss_cons (ps_if (PW.pt (pw_or (pt_val (pe_callB call_isi (by rfl) z_isinstance (by decide +kernel) (pa_cons (pv 1) (pa_cons (pe_bltn (v := .ty "bool") (by rfl) z_bool (by decide +kernel) rfl) pa_nil)))) (pw_or1 (pt_val (pe_callB call_isi (by rfl) z_isinstance (by decide +kernel) (pa_cons (pv 0) (pa_cons (pe_bltn (v := .ty "bool") (by rfl) z_bool (by decide +kernel) rfl) pa_nil))))))) (pss_one (ps_ret (pe_and (pe_callB call_isi (by rfl) z_isinstance (by decide +kernel) (pa_cons (pv 1) (pa_cons (pe_bltn (v := .ty "bool") (by rfl) z_bool (by decide +kernel) rfl) pa_nil))) (pe_and (pe_callB call_isi (by rfl) z_isinstance (by decide +kernel) (pa_cons (pv 0) (pa_cons (pe_bltn (v := .ty "bool") (by rfl) z_bool (by decide +kernel) rfl) pa_nil))) (pe_one (pe_cmpR op_eq (pv 1) (pv 0) (nomark _))))))) pss_nil)
      (pss_cons (ps_if (pt_val (pe_callB call_isi (by rfl) z_isinstance (by decide +kernel) (pa_cons (pv 1) (pa_cons (pe_bltn (v := .ty "int") (by rfl) z_int (by decide +kernel) rfl) pa_nil)))) (pss_one (ps_ret (pe_and (pe_callB call_isi (by rfl) z_isinstance (by decide +kernel) (pa_cons (pv 0) (pa_cons (pe_bltn (v := .ty "int") (by rfl) z_int (by decide +kernel) rfl) pa_nil))) (pe_one (pe_cmpR op_eq (pv 0) (pv 1) (nomark _)))))) pss_nil)
      (pss_cons (ps_if (pt_val (pe_callB call_isi (by rfl) z_isinstance (by decide +kernel) (pa_cons (pv 1) (pa_cons (pe_bltn (v := .ty "str") (by rfl) z_str (by decide +kernel) rfl) pa_nil)))) (pss_one (ps_ret (pe_and (pe_callB call_isi (by rfl) z_isinstance (by decide +kernel) (pa_cons (pv 0) (pa_cons (pe_bltn (v := .ty "str") (by rfl) z_str (by decide +kernel) rfl) pa_nil))) (pe_one (pe_cmpR op_eq (pv 0) (pv 1) (nomark _)))))) pss_nil)
      (pss_one (ps_ret (pe_and (pe_cmpR op_isN (pv 1) pe_non (nomark _)) (pe_one (pe_cmpR op_isN (pv 0) pe_non (nomark _)))))))))), ?_⟩
    rcases h with ⟨i, j, rfl, out⟩ | ⟨i, j, rfl, out⟩
    · repeat (first | walk_at "rd" | walk_at "isi" | refine iteF ?_ | refine iteT ?_)
      refine ⟨rfl, ?_⟩
      rw [show decide (V.int i = V.int j) = decide (i = j) from decide_eq_decide.mpr ⟨fun z => V.int.inj z, fun z => congrArg V.int z⟩]
      exact out
    · repeat (first | walk_at "rd" | walk_at "isi" | refine iteF ?_ | refine iteT ?_)
      refine ⟨rfl, ?_⟩
      rw [show decide (V.bl j = V.bl i) = decide (i = j) from decide_eq_decide.mpr ⟨fun z => (V.bl.inj z).symm, fun z => congrArg V.bl z.symm⟩]
      exact out
theorem ev_sameB {W : Wd} {E : XK} {ta tb : TE} {b c : Bool} (ha : Ev W ta tBl b) (hb : Ev W tb tBl c) : Ev W (tCall spSame0 [] E (tCons ta (tCons tb tNil))) tBl (decide (b = c)) := fun σ H o Q q =>
  ha σ H o _ fun v H1 g1 r1 => hb σ H1 g1.ok _ fun v2 H2 g2 r2 => .inr ⟨b, c, by rw [show v = .bl b from r1, show v2 = .bl c from r2]; rfl, q _ H2 (g1.trans g2) rfl⟩
/-! ### drawn fractions -/
abbrev DkA := Addr × Addr × List Int
abbrev dkC (K : PySem.W.Frag) (x : DkA) : List RS := [cell x.1 (cDk K x.1 x.2.1 x.2.2)]
theorem evx_fr1 {W : Wd} {ta : TE} {P : Int → Prop} (ha : Evx W ta tInt P) : Evx W (tTup (tCons ta (tCons (tC (.int 1)) tNil))) (tFr K) (fun r => ∃ i : Int, P i ∧ r = (i : Rat)) := fun σ H o Q q =>
  ha σ H o _ fun v i H1 p g1 r1 => ⟨by show 2 ≤ sizeLine; decide, fun a np => q _ _ _ ⟨i, p, rfl⟩ (g1.trans (g1.ok.new np)) ⟨a, rfl, SqT.of (by
    rw [hid_of (g1.ok.off np), upd_same]
    cases r1; rfl)⟩⟩
theorem qb_small {p q : Int} (h1 : -4 ≤ p) (h2 : p ≤ 4) (h3 : 1 ≤ q) (h4 : q ≤ 4) : QB 1 48 (Rat.divInt p q) := by
  have : ∀ q : Int, 1 ≤ q → q ≤ 4 → ∃ k : Int, q * k = 12 ∧ 0 < k ∧ k ≤ 12 := by
    intro q a b
    have : q = 1 ∨ q = 2 ∨ q = 3 ∨ q = 4 := by omega
    rcases this with rfl | rfl | rfl | rfl
    · exact ⟨12, by decide⟩
    · exact ⟨6, by decide⟩
    · exact ⟨4, by decide⟩
    · exact ⟨3, by decide⟩
  obtain ⟨k, hk, k0, k1⟩ := this q h3 h4
  refine ⟨p * k, ?_, ?_⟩
  · rw [Int.natAbs_mul]
    have a : p.natAbs ≤ 4 := by omega
    have b : k.natAbs ≤ 12 := by omega
    exact Nat.le_trans (Nat.mul_le_mul a b) (by decide)
  · have : ((12 ^ 1 : Nat) : Int) = q * k := by rw [hk]; rfl
    rw [this, Rat.divInt_mul_right (by omega)]
theorem int_div1 (i : Int) : (i : Rat) = Rat.divInt i 1 := by rw [Rat.divInt_eq_div, show ((1 : Int) : Rat) = 1 from rfl]; grind
abbrev spSmall (K : PySem.W.Frag) : Sp := spN (fun x : DkA => dkC K x) (fun x => [tRf.is x.1]) (tFr K) (fun _ => True) (fun _ y => QB 1 48 y)
abbrev sSml : Stmt := topS 48
theorem scSml : FnScope ["deck"] ["deck"] (defScope sSml) := ⟨rfl, rfl, rfl, by decide +kernel, rfl, by decide +kernel, by decide +kernel⟩
theorem ok_small {f : Addr} {fd : FuncData} {k : Nat} (F : Fun K "_law_small" "_law_small" sSml f fd) (c_law_draw : Cal P w K mg base k "_law_draw" ["deck", "most"] (spDrawA K)) (c_law_ratio : Cal P w K mg base k "_law_ratio" ["p", "q"] spRatio) : FnOk P w K mg base CX0 (k + 1) f fd ["deck"] (spSmall K) := by
  refine ok_N F scSml (fun _ => rfl) fun cdv A outer s0 H0 S x Q E hr hp out => ⟨_, (pss_cons (ps_if (pt_cmpR op_gt (pe_cal c_law_draw hr (by rfl) (pa_cons (pv 0) (pa_cons pe_int pa_nil))) pe_int (nomark _)) (pss_one (ps_ret (pe_tup (pa_cons (pe_op op_sub (pe_cal c_law_draw hr (by rfl) (pa_cons (pv 0) (pa_cons pe_int pa_nil))) pe_int) (pa_cons pe_int pa_nil))))) pss_nil)
      (pss_one (ps_ret (pe_cal c_law_ratio hr (by rfl) (pa_cons (pe_op op_sub (pe_cal c_law_draw hr (by rfl) (pa_cons (pv 0) (pa_cons pe_int pa_nil))) pe_int) (pa_cons (pe_op op_add pe_int (pe_cal c_law_draw hr (by rfl) (pa_cons (pv 0) (pa_cons pe_int pa_nil)))) pa_nil)))))), ?_⟩
  obtain ⟨d, l, ns⟩ := x
  have dr : ∀ {m : Int}, 0 < m → m.natAbs < 2 ^ 8000 → Evx ⟨H0, fps (dkC K (d, l, ns)), S, dkC K (d, l, ns), [], [some (tRf.is d)]⟩ (tCall (spDrawA K) [] E0 (tCons (tVar 0) (tCons (tC (.int m)) tNil))) tInt (fun v => 0 ≤ v ∧ v < m) := fun h0 h1 => evx_draw (d := d) (l := l) (ns := ns) rfl in0 ev_int h0 h1
  refine go_ifrx (etx_cmp (dr (by decide) (by decide)) ev_int) (fun _ => ?_) (fun _ => ?_)
  · refine go_endx (Evx.imp (evx_fr1 (evx_sub (P' := fun y => y = 2) (dr (by decide) (by decide)) (ev_int.x rfl))) fun r hr' => ?_) out rfl (fun c m => m) (fun a m => m)
    obtain ⟨i, ⟨u, v, ⟨u0, u1⟩, rfl, rfl⟩, rfl⟩ := hr'
    rw [int_div1]
    exact qb_small (by omega) (by omega) (by decide) (by decide)
  · refine go_endx (Evx.imp (evx_ratio (evx_sub (P' := fun y => y = 4) (dr (by decide) (by decide)) (ev_int.x rfl)) (evx_add (P := fun y => y = 1) (ev_int.x rfl) (dr (by decide) (by decide))) ?_) fun r hr' => ?_) out rfl (fun c m => m) (fun a m => m)
    · rintro p q ⟨u, v, ⟨u0, u1⟩, rfl, rfl⟩ ⟨u', v', rfl, ⟨v0, v1⟩, rfl⟩
      refine ⟨by omega, up_lt (a := 8) (by show _ < 256; omega) (by decide), up_lt (a := 8) (by show _ < 256; omega) (by decide)⟩
    · obtain ⟨p, q, ⟨u, v, ⟨u0, u1⟩, rfl, rfl⟩, ⟨u', v', rfl, ⟨v0, v1⟩, rfl⟩, rfl⟩ := hr'
      exact qb_small (by omega) (by omega) (by omega) (by omega)
abbrev spNumb (K : PySem.W.Frag) : Sp := spN (fun x : DkA => dkC K x) (fun x => [tRf.is x.1]) (tFr K) (fun _ => True) (fun _ y => Sz 41 y)
abbrev sNmb : Stmt := topS 47
theorem scNmb : FnScope ["deck", "kind"] ["deck"] (defScope sNmb) := ⟨rfl, rfl, rfl, by decide +kernel, rfl, by decide +kernel, by decide +kernel⟩
theorem ok_numb {f : Addr} {fd : FuncData} {k : Nat} (F : Fun K "_law_number" "_law_number" sNmb f fd) (c_law_draw : Cal P w K mg base k "_law_draw" ["deck", "most"] (spDrawA K)) (c_law_ratio : Cal P w K mg base k "_law_ratio" ["p", "q"] spRatio) : FnOk P w K mg base CX0 (k + 1) f fd ["deck"] (spNumb K) := by
  refine ok_N F scNmb (fun _ => rfl) fun cdv A outer s0 H0 S x Q E hr hp out => ⟨_, (pss_cons (ps_set (i := 1) scNmb.nd rfl (Or.inl rfl) (pe_cal c_law_draw hr (by rfl) (pa_cons (pv 0) (pa_cons pe_int pa_nil))))
      (pss_cons (ps_if (pt_cmpR op_lt (pv 1) pe_int (nomark _)) (pss_one (ps_ret (pe_tup (pa_cons (pe_op op_sub (pe_cal c_law_draw hr (by rfl) (pa_cons (pv 0) (pa_cons pe_int pa_nil))) pe_int) (pa_cons pe_int pa_nil))))) pss_nil)
      (pss_cons (ps_if (pt_cmpR op_lt (pv 1) pe_int (nomark _)) (pss_one (ps_ret (pe_cal c_law_ratio hr (by rfl) (pa_cons (pe_op op_sub (pe_cal c_law_draw hr (by rfl) (pa_cons (pv 0) (pa_cons pe_int pa_nil))) pe_int) (pa_cons (pe_op op_add pe_int (pe_cal c_law_draw hr (by rfl) (pa_cons (pv 0) (pa_cons pe_int pa_nil)))) pa_nil))))) pss_nil)
      (pss_one (ps_ret (pe_cal c_law_ratio hr (by rfl) (pa_cons (pe_op op_sub (pe_cal c_law_draw hr (by rfl) (pa_cons (pv 0) (pa_cons (pe_op op_pow pe_int pe_int) pa_nil))) (pe_op op_pow pe_int pe_int)) (pa_cons (pe_op op_add pe_int (pe_cal c_law_draw hr (by rfl) (pa_cons (pv 0) (pa_cons (pe_op op_sub (pe_op op_pow pe_int pe_int) pe_int) pa_nil)))) pa_nil)))))))), ?_⟩
  obtain ⟨d, l, ns⟩ := x
  have e12 : (10 : Int) ^ (12 : Int).toNat = 1000000000000 := by decide
  have e11 : (10 : Int) ^ (11 : Int).toNat = 100000000000 := by decide
  have p41 : (2 : Nat) ^ 41 = 2199023255552 := by decide
  refine go_setx (evx_draw (d := d) (l := l) (ns := ns) rfl in0 ev_int (by decide) (by decide)) fun kd _ => ?_
  refine go_ifr (et_cmp (ev_var rfl) ev_int) (fun _ => ?_) (fun _ => ?_)
  · refine go_endx (Evx.imp (evx_fr1 (evx_sub (P' := fun y => y = 3) (evx_draw (d := d) (l := l) (ns := ns) rfl in0 ev_int (by decide) (by decide)) (ev_int.x rfl))) fun r hr' => ?_) out rfl (fun c m => m) (fun a m => m)
    obtain ⟨i, ⟨u, v, ⟨u0, u1⟩, rfl, rfl⟩, rfl⟩ := hr'
    exact Sz.int (by rw [p41]; omega) (by decide)
  refine go_ifr (et_cmp (ev_var rfl) ev_int) (fun _ => ?_) (fun _ => ?_)
  · refine go_endx (Evx.imp (evx_ratio (evx_sub (P' := fun y => y = 6) (evx_draw (d := d) (l := l) (ns := ns) rfl in0 ev_int (by decide) (by decide)) (ev_int.x rfl)) (evx_add (P := fun y => y = 1) (ev_int.x rfl) (evx_draw (d := d) (l := l) (ns := ns) rfl in0 ev_int (by decide) (by decide))) ?_) fun r hr' => ?_) out rfl (fun c m => m) (fun a m => m)
    · rintro p q ⟨u, v, ⟨u0, u1⟩, rfl, rfl⟩ ⟨u', v', rfl, ⟨v0, v1⟩, rfl⟩
      refine ⟨by omega, up_lt (a := 41) (by rw [p41]; omega) (by decide), up_lt (a := 41) (by rw [p41]; omega) (by decide)⟩
    · obtain ⟨p, q, ⟨u, v, ⟨u0, u1⟩, rfl, rfl⟩, ⟨u', v', rfl, ⟨v0, v1⟩, rfl⟩, rfl⟩ := hr'
      exact sz_div (by omega) (by rw [p41]; omega) (by rw [p41]; omega)
  · have b1 : (10 : Int) ^ (12 : Int).toNat - 1 = 999999999999 := by decide
    refine go_endx (Evx.imp (evx_ratio (evx_sub (P' := fun y => y = (10 : Int) ^ (11 : Int).toNat) (evx_draw (d := d) (l := l) (ns := ns) rfl in0 (ev_pow ev_int ev_int ⟨by decide, by decide, by decide⟩) (by rw [e12]; decide) (by rw [e12]; exact up_lt (a := 41) (by rw [p41]; decide) (by decide))) ((ev_pow ev_int ev_int ⟨by decide, by decide, by decide⟩).x rfl)) (evx_add (P := fun y => y = 1) (ev_int.x rfl) (evx_draw (d := d) (l := l) (ns := ns) rfl in0 (ev_sub (ev_pow ev_int ev_int ⟨by decide, by decide, by decide⟩) ev_int) (by rw [b1]; decide) (by rw [b1]; exact up_lt (a := 41) (by rw [p41]; decide) (by decide)))) ?_) fun r hr' => ?_) out rfl (fun c m => m) (fun a m => m)
    · rintro p q ⟨u, v, ⟨u0, u1⟩, rfl, rfl⟩ ⟨u', v', rfl, ⟨v0, v1⟩, rfl⟩
      rw [e12] at u1
      rw [b1] at v1
      rw [e11]
      refine ⟨by omega, up_lt (a := 41) (by rw [p41]; omega) (by decide), up_lt (a := 41) (by rw [p41]; omega) (by decide)⟩
    · obtain ⟨p, q, ⟨u, v, ⟨u0, u1⟩, rfl, rfl⟩, ⟨u', v', rfl, ⟨v0, v1⟩, rfl⟩, rfl⟩ := hr'
      rw [e12] at u1
      rw [b1] at v1
      rw [e11]
      exact sz_div (by omega) (by rw [p41]; omega) (by rw [p41]; omega)
end
end Cs
set_option maxHeartbeats 4000000
namespace Cs
open PySem PySem.Spec PyProof.Rows L2
local macro_rules | `(tactic| walk_at "rd") => `(tactic| (first
  | (refine ⟨_, rfl, ?_⟩)
  | (refine ⟨_, _, rfl, rfl, ?_⟩)
  | (refine .inl ⟨_, rfl, ?_⟩)
  | (refine .inr ⟨_, rfl, ?_⟩)
  | (refine ⟨_, _, _, _, rfl, rfl, SqL.of upd_same, rfl, ?_⟩)
  | (refine ⟨_, _, _, _, rfl, rfl, upd_same, rfl, ?_⟩)
  | (refine ⟨_, ?xs, _, ?v, rfl, rfl, ?h, ?x, ?_⟩; (case h => first | exact SqL.of (by assumption) | exact SqT.of (by assumption) | assumption); (case x => first | rfl | exact atI_nat (j := 0) rfl | exact atI_nat (j := 1) rfl))))
local macro_rules | `(tactic| walk_at "isi") => `(tactic| (first
  | (refine ⟨_, _, _, _, _, rfl, .ty _, .base (.int _), kit_ty kit_it, ?_⟩)
  | (refine ⟨_, _, _, _, _, rfl, .ty _, .base (.int _), kit_ty kit_ib, ?_⟩)
  | (refine ⟨_, _, _, _, _, rfl, .ty _, .base (.int _), kit_ty kit_ii, ?_⟩)
  | (refine ⟨_, _, _, _, _, rfl, .ty _, .base (.bl _), kit_ty kit_bt, ?_⟩)
  | (refine ⟨_, _, _, _, _, rfl, .ty _, .base (.bl _), kit_ty kit_bb, ?_⟩)
  | (refine ⟨_, _, _, _, _, rfl, .ty _, .base (.bl _), kit_ty kit_bi, ?_⟩)))
local macro_rules | `(tactic| walk_at "ev") => `(tactic| (first
  | exact ev_var rfl
  | exact ev_int
  | exact ev_str
  | exact ev_bl
  | exact ev_non
  | (refine ev_add ?_ ?_ <;> walk_at "ev")
  | (refine ev_sub ?_ ?_ <;> walk_at "ev")
  | (refine ev_mul ?_ ?_ ?_ <;> (try walk_at "ev"))
  | (refine ev_neg ?_ <;> walk_at "ev")
  | (refine ev_num ?_ <;> walk_at "ev")
  | (refine ev_den ?_ <;> walk_at "ev")
  | (refine ev_cmp ?_ ?_ <;> walk_at "ev")
  | (refine ev_eqI ?_ ?_ <;> walk_at "ev")
  | (refine ev_eqS ?_ ?_ <;> walk_at "ev")
  | (refine ev_neI ?_ ?_ <;> walk_at "ev")
  | (refine ev_neS ?_ ?_ <;> walk_at "ev")
  | (refine ev_inS ?_ ?_ <;> walk_at "ev")
  | (refine ev_niS ?_ ?_ <;> walk_at "ev")
  | (refine ev_len ?_ <;> walk_at "ev")
  | (refine ev_list ?_ <;> walk_at "ev")
  | (refine ev_listRev ?_ <;> walk_at "ev")
  | (refine ev_int1 ?_ <;> walk_at "ev")))
local macro_rules | `(tactic| walk_at "ea") => `(tactic| (first
  | exact ea_nil
  | (refine ea_cons ?_ ?_ <;> (first | walk_at "ev" | walk_at "ea" | skip))))
local macro_rules | `(tactic| walk_at "sb") => `(tactic| (first | exact True.intro | (refine And.intro rfl ?_; walk_at "sb")))
local macro_rules | `(tactic| walk_at "subt") => `(tactic| repeat (first | exact List.nil_sublist _ | apply List.Sublist.cons₂ | apply List.Sublist.cons))
section
variable {P : Program} {w : World} {K : PySem.W.Frag} {mg : Str → Option Value} {base : Heap}
/-! ### the law -/
section
variable {α : Type} {W : Wd} {ta tb : TE} {t : Ty α} {p : Addr}
theorem ev_neDgS {xs ys : List α} {s : Nat} [DecidableEq α] (e : Eqt K t) (hs : W.G[s]? = some (some (tRf.is p))) (hL : cell p (cLs t xs) ∈ W.L) (hb : Ev W tb (tLs K t) ys) (l1 : ((eqLs e).d xs).canLay0 = true) (l2 : ((eqLs e).d ys).canLay0 = true) (hn : (eqLs e).n ≤ 64) : Ev W (tOp (rNeD K) (tVar s) tb) tBl (!decide (xs = ys)) := fun σ H o Q k => by
  obtain ⟨u, h1, rfl⟩ := o.slots s _ hs
  refine ⟨.ref p, h1, hb σ H o _ fun v2 H2 g2 r2 => ?_⟩
  obtain ⟨ob, hob, vs, rfl, al⟩ := g2.ok.at_ _ hL
  exact ⟨_, _, (show Dp K H2 (.ref p) ((eqLs e).d xs) from .lst (SqL.of hob) (dpAll_of e (All2.mono (fun _ _ => t.mono hid_sub) al))), dp_mono hid_sub ((eqLs e).dp r2), (eqLs e).shape hn l1, (eqLs e).shape hn l2, by rw [(eqLs e).dec]; exact k _ H2 g2 rfl⟩
theorem evx_ixG {xs : List α} {P : Int → Prop} {s : Nat} (hs : W.G[s]? = some (some (tRf.is p))) (hL : cell p (cLs t xs) ∈ W.L) (hb : Evx W tb tInt P) (h : ∀ n, P n → 0 ≤ n ∧ n < (xs.length : Int)) : Evx W (tOp (rIxL K) (tVar s) tb) t (fun x => x ∈ xs) := fun σ H o Q q => by
  obtain ⟨v, h1, rfl⟩ := o.slots s _ hs
  refine ⟨.ref p, h1, hb σ H o _ fun w n H1 pn g1 r1 => ?_⟩
  obtain rfl : w = .int n := r1
  obtain ⟨ob, hob, vs, rfl, al⟩ := g1.ok.at_ _ hL
  obtain ⟨n0, n1⟩ := h n pn
  have hx : xs[n.toNat]? = some (xs[n.toNat]'(by omega)) := List.getElem?_eq_getElem (by omega)
  obtain ⟨z, hz, rz⟩ := al.get hx
  have hz2 : atI vs n = some z := by
    unfold atI ixN
    rw [al.length, if_pos n0, if_pos n1]
    exact hz
  exact ⟨p, vs, n, z, rfl, rfl, .inl (.inl hob), hz2, q z _ H1 (List.mem_of_getElem? hx) g1 rz⟩
theorem ev_lenG {xs : List α} {s : Nat} (hs : W.G[s]? = some (some (tRf.is p))) (hL : cell p (cLs t xs) ∈ W.L) : Ev W (tCB (fun xs H Q => ∃ p ys, xs = [.ref p] ∧ (SqL K H p ys ∨ SqT K H p ys) ∧ Q (.int ys.length) H) (tCons (tVar s) tNil)) tInt (xs.length : Int) := fun σ H o Q q => by
  obtain ⟨v, h1, rfl⟩ := o.slots s _ hs
  obtain ⟨ob, hob, vs, rfl, al⟩ := o.at_ _ hL
  exact ⟨.ref p, h1, p, vs, rfl, .inl (SqL.of hob), q _ H (Go1.refl o) (by show V.int _ = V.int _; rw [al.length])⟩
end
theorem qb_qs {k : Nat} {r : Rat} (hk : k ≤ 5) (h : QB k (48 ^ k) r) : QS r := by
  have u := h.up (5 - k)
  rw [← Nat.pow_add, show 5 - k + k = 5 by omega, show k + (5 - k) = 5 by omega] at u
  exact u.mono (by decide)
structure RwAt (n k : Nat) (c : List RR) : Prop where
  len : c.length = k
  row : ∀ r ∈ c, r.length = n ∧ ∀ q ∈ r, QB k (48 ^ k) q
theorem qb_succ {k : Nat} {r : Rat} (h : QB k (48 ^ k) r) : QB (k + 1) (48 ^ (k + 1)) r := by
  have := h.up 1
  rw [Nat.pow_succ, Nat.mul_comm]
  exact this
theorem qb_one {k : Nat} {r : Rat} (h : QB 1 48 r) : QB (k + 1) (48 ^ (k + 1)) r := by
  have := h.up k
  rw [Nat.pow_succ, Nat.add_comm k 1]
  exact this
theorem qb_mulk {k : Nat} {r s : Rat} (h : QB 1 48 r) (g : QB k (48 ^ k) s) : QB (k + 1) (48 ^ (k + 1)) (r * s) := by
  have := h.mul g
  rw [Nat.pow_succ, Nat.add_comm k 1, Nat.mul_comm]
  exact this
abbrev sLaw : Stmt := topS 49
theorem scLaw : FnScope ["script", "deck", "size", "rows", "k", "row", "factor", "found", "turn", "sides", "answer", "moved", "j", "value", "v"] ["script"] (defScope sLaw) := ⟨rfl, rfl, rfl, by decide +kernel, rfl, by decide +kernel, by decide +kernel⟩
structure LawP (P : Program) (w : World) (K : PySem.W.Frag) (mg : Str → Option Value) (base : Heap) (k : Nat) (TB : List RS) : Prop where
  c_law_deck : Cal P w K mg base k "_law_deck" ["script"] (spDeckN K)
  c_law_draw : Cal P w K mg base k "_law_draw" ["deck", "most"] (spDrawA K)
  c_law_small : Cal P w K mg base k "_law_small" ["deck"] (spSmall K)
  c_law_number : Cal P w K mg base k "_law_number" ["deck"] (spNumb K)
  c_law_times : Cal P w K mg base k "_law_times" ["a", "b"] (spLTimesY K)
  c_law_add : Cal P w K mg base k "_law_add" ["a", "b"] (spLAddY K)
  c_law_dot : Cal P w K mg base k "_law_dot" ["first", "second"] (spLDotY K)
  c_law_same : Cal P w K mg base k "_law_same" ["actual", "due"] spSame0
  c_kernel : Cal P w K mg base k "kernel" ["rows", "columns"] (spKl K TB)
  c_rank : Cal P w K mg base k "rank" ["rows"] (spRank K TB)
  c_solve : Cal P w K mg base k "solve" ["rows", "sides"] (spSolve K TB)
  c_solves : Cal P w K mg base k "solves" ["rows", "sides", "values"] (spSvs K TB)
  c_is_kernel : Cal P w K mg base k "is_kernel" ["rows", "values"] (spIsk K TB)
theorem ok_law {f : Addr} {fd : FuncData} {k : Nat} {Ps : List Addr} (F : Fun K "law" "law" sLaw f fd) (LP : LawP P w K mg base k (Ps.map tab)) (kl : PySem.W.kitOne K (.type "list") (.type "list") = some true) (z_range : mg "range" = none) (z_len : mg "len" = none) (z_list : mg "list" = none) (z_isinstance : mg "isinstance" = none) : FnOk P w K mg base CX0 (k + 1) f fd ["script"] (spLawL K 63 Ps) := by
  have c_law_deck := LP.c_law_deck
  have c_law_draw := LP.c_law_draw
  have c_law_small := LP.c_law_small
  have c_law_number := LP.c_law_number
  have c_law_times := LP.c_law_times
  have c_law_add := LP.c_law_add
  have c_law_dot := LP.c_law_dot
  have c_law_same := LP.c_law_same
  have c_kernel := LP.c_kernel
  have c_rank := LP.c_rank
  have c_solve := LP.c_solve
  have c_solves := LP.c_solves
  have c_is_kernel := LP.c_is_kernel
  refine ok_Nm F scLaw (fun _ => rfl) fun cdv A outer s0 H0 S ns Q E hr hp out hMS => ⟨_, (pss_cons (ps_set (i := 1) scLaw.nd rfl (Or.inr rfl) (pe_cal c_law_deck hr (by rfl) (pa_cons (pv 0) pa_nil)))
      (pss_cons (ps_set (i := 2) scLaw.nd rfl (Or.inl rfl) (pe_op op_add pe_int (pe_cal c_law_draw hr (by rfl) (pa_cons (pv 1) (pa_cons pe_int pa_nil)))))
      (pss_cons (ps_set (i := 3) scLaw.nd rfl (Or.inl rfl) (pe_lst pa_nil))
      (pss_cons (ps_for PassesOwn.never rfl (pi_range1 rfl z_range (pa_cons (pv 2) pa_nil)) (pg_name (i := 4) scLaw.nd rfl (Or.inl rfl)) (pss_cons (ps_setLc (i := 5) (own := [("j", 12)]) (g := gName 12) (tt := tYes) rfl scLaw.nd rfl rfl (sw_true rfl rfl rfl (by decide +kernel)) (pi_range1 (by rfl) z_range (pa_cons (pv 2) pa_nil)) (blkOk_by (own := [("j", 12)]) (N := ["script", "deck", "size", "rows", "k", "row", "factor", "found", "turn", "sides", "answer", "moved", "j", "value", "v"]) (sc := defScope sLaw) (by decide +kernel)) (fun _ _ _ _ _ => (pg_name (i := 12) scLaw.nd rfl (Or.inl rfl))) (fun _ _ _ _ _ => pts_nil) (fun _ _ _ _ _ => (pe_cal c_law_small hr (by rfl) (pa_cons (pv 1) pa_nil))))
      (pss_cons (ps_if (PW.pt (pw_and (pt_cmpR (op_neD hr.units) (pv 3) (pe_lst pa_nil) (nomark _)) (pw_and1 (pt_cmpR op_eq (pe_cal c_law_draw hr (by rfl) (pa_cons (pv 1) (pa_cons pe_int pa_nil))) pe_int (nomark _))))) (pss_cons (ps_set (i := 6) scLaw.nd rfl (Or.inr rfl) (pe_cal c_law_small hr (by rfl) (pa_cons (pv 1) pa_nil)))
      (pss_one (ps_setLc (i := 5) (own := [("value", 13)]) (g := gName 13) (tt := tYes) rfl scLaw.nd rfl rfl (sw_true rfl rfl rfl (by decide +kernel)) (pi_list (pe_ix ix_list (pv 3) (pe_cal c_law_draw hr (by rfl) (pa_cons (pv 1) (pa_cons (pe_callB call_len_seq (by rfl) z_len PySem.boot_len (pa_cons (pv 3) pa_nil)) pa_nil))) (fun _ _ => rfl))) (blkOk_by (own := [("value", 13)]) (N := ["script", "deck", "size", "rows", "k", "row", "factor", "found", "turn", "sides", "answer", "moved", "j", "value", "v"]) (sc := defScope sLaw) (by decide +kernel)) (fun _ _ _ _ _ => (pg_name (i := 13) scLaw.nd rfl (Or.inl rfl))) (fun _ _ _ _ _ => pts_nil) (fun _ _ _ _ _ => (pe_cal c_law_times hr (by rfl) (pa_cons (pv 6) (pa_cons (pv 13) pa_nil))))))) pss_nil)
      (pss_one (ps_expr (pe_bm PySem.F.plainAttrs_list PySem.F.slot_list_append PySem.F.type_list_append mt_append (pv 3) (pa_cons (pv 5) pa_nil)))))))
      (pss_cons (ps_set (i := 7) scLaw.nd rfl (Or.inr rfl) (pe_cal c_kernel hr (by rfl) (pa_cons (pe_lc (own := [("row", 5)]) (g := gName 5) (tt := tYes) rfl scLaw.nd (pi_list (pv 3)) (blkOk_by (own := [("row", 5)]) (N := ["script", "deck", "size", "rows", "k", "row", "factor", "found", "turn", "sides", "answer", "moved", "j", "value", "v"]) (sc := defScope sLaw) (by decide +kernel)) (fun _ _ _ _ _ => (pg_name (i := 5) scLaw.nd rfl (Or.inl rfl))) (fun _ _ _ _ _ => pts_nil) (fun _ _ _ _ _ => (pe_callTy (call_list_ofK (K := K) rfl) (by rfl) z_list (by decide +kernel) (pa_cons (pv 5) pa_nil)))) (pa_cons (pv 2) pa_nil))))
      (pss_cons (ps_if (pt_cmpR op_ne (pe_cmpR op_isN (pv 7) pe_non (nomark _)) (pe_cmpR op_eq (pe_cal c_rank hr (by rfl) (pa_cons (pv 3) pa_nil)) (pv 2) (nomark _)) (nomark _)) (pss_one (ps_ret pe_bl)) pss_nil)
      (pss_cons (ps_if (pt_cmpR op_notN (pv 7) pe_non (nomark _)) (pss_cons (ps_if (PW.pt (pw_or (pt_not (pt_val (pe_callB call_isi (by rfl) z_isinstance (by decide +kernel) (pa_cons (pv 7) (pa_cons (pe_bltn (v := .ty "list") (by rfl) z_list (by decide +kernel) rfl) pa_nil))))) (pw_or (pt_cmpR op_ne (pe_callB call_len_seq (by rfl) z_len PySem.boot_len (pa_cons (pv 7) pa_nil)) (pv 2) (nomark _)) (pw_or1 (pt_cmpR (op_eqD hr.units) (pe_lc (own := [("v", 14)]) (g := gName 14)  rfl scLaw.nd (pi_list (pv 7)) (blkOk_by (own := [("v", 14)]) (N := ["script", "deck", "size", "rows", "k", "row", "factor", "found", "turn", "sides", "answer", "moved", "j", "value", "v"]) (sc := defScope sLaw) (by decide +kernel)) (fun _ _ _ _ _ => (pg_name (i := 14) scLaw.nd rfl (Or.inl rfl))) (fun _ _ _ _ _ => (pts_one (pt_cmpR (op_neDK (K := K) rfl hr.units) (pv 14) (pe_tup (pa_cons pe_int (pa_cons pe_int pa_nil))) (nomark _)))) (fun _ _ _ _ _ => (pv 14))) (pe_lst pa_nil) (nomark _)))))) (pss_one (ps_ret pe_bl)) pss_nil)
      (pss_one (ps_if (PW.pt (pw_or (pt_cmpR (op_neD hr.units) (pe_lc (own := [("row", 5)]) (g := gName 5)  rfl scLaw.nd (pi_list (pv 3)) (blkOk_by (own := [("row", 5)]) (N := ["script", "deck", "size", "rows", "k", "row", "factor", "found", "turn", "sides", "answer", "moved", "j", "value", "v"]) (sc := defScope sLaw) (by decide +kernel)) (fun _ _ _ _ _ => (pg_name (i := 5) scLaw.nd rfl (Or.inl rfl))) (fun _ _ _ _ _ => (pts_one (pt_cmpR op_ne (pe_ix (ix_tupK (K := K) rfl) (pe_cal c_law_dot hr (by rfl) (pa_cons (pv 5) (pa_cons (pv 7) pa_nil))) pe_int (fun _ _ => rfl)) pe_int (nomark _)))) (fun _ _ _ _ _ => (pv 5))) (pe_lst pa_nil) (nomark _)) (pw_or1 (pt_not (pt_val (pe_cal c_law_same hr (by rfl) (pa_cons (pe_cal c_is_kernel hr (by rfl) (pa_cons (pv 3) (pa_cons (pv 7) pa_nil))) (pa_cons pe_bl pa_nil)))))))) (pss_one (ps_ret pe_bl)) pss_nil))) pss_nil)
      (pss_cons (ps_for PassesOwn.never rfl (pi_range1 rfl z_range (pa_cons pe_int pa_nil)) (pg_name (i := 8) scLaw.nd rfl (Or.inl rfl)) (pss_cons (ps_set (i := 9) scLaw.nd rfl (Or.inr rfl) (pe_lc (own := [("k", 4)]) (g := gName 4) (tt := tYes) rfl scLaw.nd (pi_range1 (by rfl) z_range (pa_cons (pv 2) pa_nil)) (blkOk_by (own := [("k", 4)]) (N := ["script", "deck", "size", "rows", "k", "row", "factor", "found", "turn", "sides", "answer", "moved", "j", "value", "v"]) (sc := defScope sLaw) (by decide +kernel)) (fun _ _ _ _ _ => (pg_name (i := 4) scLaw.nd rfl (Or.inl rfl))) (fun _ _ _ _ _ => pts_nil) (fun _ _ _ _ _ => (pe_cal c_law_small hr (by rfl) (pa_cons (pv 1) pa_nil)))))
      (pss_cons (ps_if (pt_cmpR op_eq (pv 8) pe_int (nomark _)) (pss_one (ps_set (i := 9) scLaw.nd rfl (Or.inr rfl) (pe_lc (own := [("row", 5)]) (g := gName 5) (tt := tYes) rfl scLaw.nd (pi_list (pv 3)) (blkOk_by (own := [("row", 5)]) (N := ["script", "deck", "size", "rows", "k", "row", "factor", "found", "turn", "sides", "answer", "moved", "j", "value", "v"]) (sc := defScope sLaw) (by decide +kernel)) (fun _ _ _ _ _ => (pg_name (i := 5) scLaw.nd rfl (Or.inl rfl))) (fun _ _ _ _ _ => pts_nil) (fun _ _ _ _ _ => (pe_cal c_law_dot hr (by rfl) (pa_cons (pv 5) (pa_cons (pv 9) pa_nil))))))) pss_nil)
      (pss_cons (ps_set (i := 10) scLaw.nd rfl (Or.inr rfl) (pe_cal c_solve hr (by rfl) (pa_cons (pv 3) (pa_cons (pv 9) pa_nil))))
      (pss_cons (ps_if (PW.pt (pw_or (PW.pt (pw_and (pt_cmpR op_isN (pv 7) pe_non (nomark _)) (pw_and1 (pt_cmpR op_ne (pe_ix ix_tup (pv 10) pe_int (fun _ _ => rfl)) pe_str (nomark _))))) (pw_or1 (PW.pt (pw_and (pt_cmpR op_notN (pv 7) pe_non (nomark _)) (pw_and1 (pt_cmpR op_eq (pe_ix ix_tup (pv 10) pe_int (fun _ _ => rfl)) pe_str (nomark _)))))))) (pss_one (ps_ret pe_bl)) pss_nil)
      (pss_cons (ps_if (PW.pt (pw_and (pt_cmpR op_eq (pv 8) pe_int (nomark _)) (pw_and1 (pt_cmpR op_eq (pe_ix ix_tup (pv 10) pe_int (fun _ _ => rfl)) pe_str (nomark _))))) (pss_one (ps_ret pe_bl)) pss_nil)
      (pss_one (ps_if (pt_cmpR op_ne (pe_ix ix_tup (pv 10) pe_int (fun _ _ => rfl)) pe_str (nomark _)) (pss_cons (ps_if (pt_cmpR (op_neD hr.units) (pe_lc (own := [("row", 5)]) (g := gName 5) (tt := tYes) rfl scLaw.nd (pi_list (pv 3)) (blkOk_by (own := [("row", 5)]) (N := ["script", "deck", "size", "rows", "k", "row", "factor", "found", "turn", "sides", "answer", "moved", "j", "value", "v"]) (sc := defScope sLaw) (by decide +kernel)) (fun _ _ _ _ _ => (pg_name (i := 5) scLaw.nd rfl (Or.inl rfl))) (fun _ _ _ _ _ => pts_nil) (fun _ _ _ _ _ => (pe_cal c_law_dot hr (by rfl) (pa_cons (pv 5) (pa_cons (pe_ix (ix_tupK (K := K) rfl) (pv 10) pe_int (fun _ _ => rfl)) pa_nil))))) (pv 9) (nomark _)) (pss_one (ps_ret pe_bl)) pss_nil)
      (pss_cons (ps_set (i := 6) scLaw.nd rfl (Or.inr rfl) (pe_cal c_law_number hr (by rfl) (pa_cons (pv 1) pa_nil)))
      (pss_one (ps_if (pt_cmpR op_notN (pv 7) pe_non (nomark _)) (pss_cons (ps_setLc (i := 11) (own := [("k", 4)]) (g := gName 4) (tt := tYes) rfl scLaw.nd rfl rfl (sw_true rfl rfl rfl (by decide +kernel)) (pi_range1 (by rfl) z_range (pa_cons (pv 2) pa_nil)) (blkOk_by (own := [("k", 4)]) (N := ["script", "deck", "size", "rows", "k", "row", "factor", "found", "turn", "sides", "answer", "moved", "j", "value", "v"]) (sc := defScope sLaw) (by decide +kernel)) (fun _ _ _ _ _ => (pg_name (i := 4) scLaw.nd rfl (Or.inl rfl))) (fun _ _ _ _ _ => pts_nil) (fun _ _ _ _ _ => (pe_cal c_law_add hr (by rfl) (pa_cons (pe_ix (ix_lstK (K := K) rfl) (pe_ix (ix_tupK (K := K) rfl) (pv 10) pe_int (fun _ _ => rfl)) (pv 4) (fun _ _ => rfl)) (pa_cons (pe_cal c_law_times hr (by rfl) (pa_cons (pv 6) (pa_cons (pe_ix (ix_lstK (K := K) rfl) (pv 7) (pv 4) (fun _ _ => rfl)) pa_nil))) pa_nil)))))
      (pss_one (ps_if (pt_not (pt_val (pe_cal c_law_same hr (by rfl) (pa_cons (pe_cal c_solves hr (by rfl) (pa_cons (pv 3) (pa_cons (pv 9) (pa_cons (pv 11) pa_nil)))) (pa_cons pe_bl pa_nil))))) (pss_one (ps_ret pe_bl)) pss_nil))) pss_nil)))) pss_nil))))))))
      (pss_one (ps_ret pe_bl)))))))))), ?_⟩
  clear LP
  refine go_deck (K := K) (ns := ns) rfl fun d l => ?_
  refine go_setx (evx_add (P := fun y => y = 1) (ev_int.x rfl) (evx_draw (d := d) (l := l) (ns := ns) rfl (List.mem_cons_self ..) ev_int (by decide) (by decide))) fun sz hsz => ?_
  obtain ⟨n, rfl, n1, n4⟩ : ∃ n : Nat, sz = (n : Int) ∧ 1 ≤ n ∧ n ≤ 4 := by
    obtain ⟨u, v, rfl, ⟨v0, v1⟩, rfl⟩ := hsz
    exact ⟨(1 + v).toNat, by omega, by omega, by omega⟩
  clear hsz
  have k1 : -(2 ^ 62) ≤ (n : Int) := by omega
  have k2 : (n : Int) < 2 ^ 62 := by omega
  have nl : ((List.range ((n : Int)).toNat).map fun (i : Nat) => (i : Int)).length < sizeLine := Nat.lt_of_le_of_lt (by rw [List.length_map, List.length_range]; omega) (show 10 < sizeLine by decide)
  have rl : ((List.range ((n : Int)).toNat).map fun (i : Nat) => (i : Int)).length = n := by rw [List.length_map, List.length_range, Int.toNat_natCast]
  refine go_newN (t := tFs K) el_nil (k := fun p np => ?_)
  refine go_seq (go_for (ι := List RR) (iv_range1 (ev_var rfl) k1 k2) tgt_name (fun _ c => (cell p (cLs (tFs K) c) :: cell d (cDk K d l ns) :: Ps.map tab, [some ((tSc K).is ns), some (tRf.is d), some (tInt.is (n : Int)), some (tRf.is p), none, none, none, none, none, none, none, none, none, none, none])) (fun k c => RwAt n k c) [] ⟨rfl, fun r m => nomatch m⟩ (fun σ H o => o.sb (by walk_at "sb")) (fun k c x f hx hc => ?_) (fun c hc σ H o => ?_))
  · have kn : k < n := by have := (List.getElem?_eq_some_iff.mp hx).1; rw [rl] at this; exact this
    have cl : c.length = k := hc.len
    refine go_setx (evx_lc (K := K) (u := tFr K) (P := fun _ b => b = true) (R := fun _ y => QB 1 48 y) (iv_range1 (ev_var rfl) k1 k2) tgt_name (by simp) nl (fun D φ F i _ _ => Et.toX (P := fun b => b = true) et_yes rfl) (fun D φ F i _ _ _ => evx_call (z := (d, l, ns)) (ea_cons (ev_var rfl) ea_nil) trivial (List.singleton_sublist.mpr (List.mem_cons_of_mem _ (List.mem_cons_of_mem _ (List.mem_cons_self ..)))))) fun row hrow => ?_
    have rw1 : row.length = n := by rw [LcR.full hrow, rl]
    have rw2 : ∀ q ∈ row, QB 1 48 q := LcR.all hrow fun _ _ _ _ h => h
    refine go_ifj (ι := RR) (fun r => ⟨H0, fps (Ps.map tab), p :: d :: S, cell p (cLs (tFs K) c) :: cell d (cDk K d l ns) :: Ps.map tab, [f], [some ((tSc K).is ns), some (tRf.is d), some (tInt.is (n : Int)), some (tRf.is p), none, some ((tFs K).is r), none, none, none, none, none, none, none, none, none]⟩) (fun r => r.length = n ∧ ∀ q ∈ r, QB (k + 1) (48 ^ (k + 1)) q) (etx_and (Et.toX (P := fun b => b = (!decide (c = []))) (et_of (ev_neDgS (eqLs eqFr) (s := 3) (p := p) (xs := c) (ys := []) rfl (List.mem_cons_self ..) (ev_lst el_nil (by show 0 ≤ sizeLine; decide)) (lay_ls _ fun r _ => lay_ls _ fun q _ => lay_fr q) (lay_ls _ fun r m => by cases m) (by simp [eqLs, eqFr]))) rfl) (etx_eqI (evx_draw (s := 1) (m := 3) (d := d) (l := l) (ns := ns) rfl (List.mem_cons_of_mem _ (List.mem_cons_self ..)) ev_int (by decide) (by decide)) ev_int)) (fun hb nx hnx => ?_) (fun _ => ⟨row, ⟨rw1, fun q m => qb_one (rw2 q m)⟩, fun σ H o => o.sb (by walk_at "sb")⟩) (fun r hr' => ?_)
    · have c0 : c ≠ [] := by
        have h1 : true = (!decide (c = [])) := by
          have := hb
          simp only [if_true] at this
          exact this.1
        intro z
        rw [z] at h1
        simp at h1
      have cp : 0 < c.length := List.length_pos_iff.mpr c0
      refine go_setx (evx_call (z := (d, l, ns)) (ea_cons (ev_var rfl) ea_nil) trivial (List.singleton_sublist.mpr (List.mem_cons_of_mem _ (List.mem_cons_self ..)))) fun fac hfac => ?_
      have hfac : QB 1 48 fac := hfac
      refine go_setx1 (Pa := fun r => r.length = n ∧ ∀ q ∈ r, QB (k + 1) (48 ^ (k + 1)) q) (Evx.imp (evx_lcmx (K := K) (u := tFr K) (X := fun r => r ∈ c) (f := fun q : Rat => fac * q) (ivx_list (evx_ixG (s := 3) (p := p) rfl (List.mem_cons_self ..) (evx_drawKx (P := fun m => m = (c.length : Int)) (s := 1) (d := d) (l := l) (ns := ns) rfl (List.mem_cons_of_mem _ (List.mem_cons_self ..)) ((ev_lenG (s := 3) (p := p) rfl (List.mem_cons_self ..)).x rfl) (fun m hm => by subst hm; exact ⟨by omega, Nat.lt_of_le_of_lt (show _ ≤ 2 ^ 3 by rw [Int.natAbs_natCast]; omega) (Nat.pow_lt_pow_right (by decide) (by decide))⟩)) (fun m hm => by obtain ⟨m', rfl, h0, h1⟩ := hm; exact ⟨h0, h1⟩))) tgt_name (by simp) (fun xs hx' => Nat.lt_of_le_of_lt (by rw [(hc.row xs hx').1]; omega) (show 10 < sizeLine by decide)) (fun xs hx' D φ F q _ hq => ?_)) fun y hy => ?_) fun y hy σ H o => hnx y hy σ H (o.sb (by walk_at "sb"))
      · have hq2 := (hc.row xs hx').2 q hq
        have s1 : Sz 31 fac := qs_sz (qb_qs (k := 1) (by decide) hfac)
        have s2 : Sz 31 q := qs_sz (qb_qs (by omega) hq2)
        exact ev_call (z := (fac, q)) (ea_cons (ev_var rfl) (ea_cons (ev_var rfl) ea_nil)) ⟨31, 31, by decide, s1, s2⟩
      · obtain ⟨xs, hx', rfl⟩ := hy
        obtain ⟨h1, h2⟩ := hc.row xs hx'
        refine ⟨by rw [List.length_map]; exact h1, fun q m => ?_⟩
        obtain ⟨q0, m0, rfl⟩ := List.mem_map.mp m
        exact qb_mulk hfac (h2 q0 m0)
    · refine go_app1 (p := p) (t := tFs K) (xs := c) (R := cell d (cDk K d l ns) :: Ps.map tab) rfl (List.Perm.refl _) (ev_var rfl) (Nat.lt_of_le_of_lt (by omega) (show 10 < sizeLine by decide)) fun σ H o => ⟨c ++ [r], ⟨by rw [List.length_append, cl]; rfl, fun r' m => ?_⟩, o.sb (by walk_at "sb")⟩
      rcases List.mem_append.mp m with z | z
      · exact ⟨(hc.row r' z).1, fun q m => qb_succ ((hc.row r' z).2 q m)⟩
      · rw [List.mem_singleton.mp z]; exact hr'
  · rw [rl] at hc
    have RO : RowsOk c n := ⟨n4, n1, hc.len, fun r m => (hc.row r m).1, fun r m q mq => qb_qs (by omega) ((hc.row r m).2 q mq)⟩
    have cne : c ≠ [] := fun z => by have := hc.len; rw [z] at this; simp at this; omega
    have KO : KlOk c n := ⟨by rw [hc.len]; omega, cne, fun r m => (hc.row r m).1, fun r m => wh_ok (RO.qs r m) (by rw [(hc.row r m).1]; omega), RO.kt⟩
    have hMS2 : ∀ a ∈ fps (Ps.map tab), a ∈ d :: S := fun a m => List.mem_cons_of_mem _ (hMS a m)
    dsimp only at o ⊢
    refine go_at o (go_frz (K := K) (i := 3) (t := tFs K) (xs := c) (S := d :: S) (L := cell d (cDk K d l ns) :: Ps.map tab) rfl hMS2 np (fun a m => ?_) ?_)
    · rcases List.mem_cons.mp (show a ∈ d :: fps (Ps.map tab) from m) with z | z
      · rw [z]; exact List.mem_cons_self ..
      · exact hMS2 a z
    let TB := Ps.map tab
    let C := cell d (cDk K d l ns)
    have sTB : TB.Sublist (C :: TB) := List.sublist_cons_self ..
    have sC : [C].Sublist (C :: TB) := List.singleton_sublist.mpr (List.mem_cons_self ..)
    have cl : c.length ≤ 10 := KO.rl
    have cD2 : ∀ c ∈ TB, c ∈ C :: TB := fun c m => List.mem_cons_of_mem _ m
    have sD2 : ∀ a, a ∈ S → a ∈ d :: S := fun a m => List.mem_cons_of_mem _ m
    obtain ⟨KK, hKK⟩ : ∃ KK, kerR (klS c n).fd (klS c n).pv n = KK := ⟨_, rfl⟩
    let G1 : Option RR → List (Option SF) := fun KK => [some ((tSc K).is ns), some (tRf.is d), some (tInt.is (n : Int)), some ((tFss K).is c), none, none, none, some ((tOpt (tFs K)).is KK), none, none, none, none, none, none, none]
    refine go_set (t := tOpt (tFs K)) (x := KK) (ev_is (evx_call (z := (c, n)) (ea_cons (ev_is (ev_lcm (K := K) (u := tFs K) (f := fun r : RR => r) (iv_list (ev_var rfl)) tgt_name (by simp) (Nat.lt_of_le_of_lt cl (by decide)) fun D φ F r _ _ => ev_list (ev_var rfl)) (List.map_id' c)) (ea_cons (ev_var rfl) ea_nil)) KO sTB).ev hKK) ?_
    refine go_wk (W' := ⟨H0, fps TB, d :: S, C :: TB, [], G1 KK⟩) (fun σ H o => o.sb (by walk_at "sb")) ?_
    have rke : KK.isNone = decide ((((klS c n).pv.length : Nat) : Int) = (n : Int)) := by
      have h := RO.rank
      by_cases e : (klS c n).pv.length = n
      · rw [decide_eq_true (by omega)]
        have : KK = none := hKK.symm.trans (h.mpr e)
        rw [this]; rfl
      · rw [decide_eq_false (by omega)]
        cases q : KK with
        | none => exact absurd (h.mp (hKK.trans q)) e
        | some v => rfl
    refine go_ifr (b := false) (et_is (et_of (ev_neB (et_isNV (ev_var (n := 7) (t := tOpt (tFs K)) (x := KK) rfl)) (ev_eqI ((evx_call (z := (c, n)) (ea_cons (ev_var rfl) ea_nil) KO sTB).ev) (ev_var rfl)))) (by rw [rke]; simp)) (fun h => by cases h) (fun _ => ?_)
    refine go_ifj (ι := Unit) (fun _ => ⟨H0, fps TB, d :: S, C :: TB, [], G1 KK⟩) (fun _ => True) (Et.toX (P := fun b => b = !KK.isNone) (et_nnS (ev_var (n := 7) (t := tOpt (tFs K)) (x := KK) rfl)) rfl) (fun hb nx hnx => ?_) (fun _ => ⟨(), trivial, fun σ H o => o⟩) (fun _ _ => ?_)
    · cases KK with
      | none => cases hb
      | some v =>
        obtain ⟨vl, ⟨cc, ccn, cc1⟩, vd⟩ := RO.ker hKK
        have vs := RO.kerSz hKK
        have v10 : v.length ≤ 10 := by omega
        have vf : {W : Wd} → W.G[7]? = some (some ((tOpt (tFs K)).is (some v))) → Ev W (tVar 7) (tFs K) v := fun h => ev_some (ev_var h)
        have vne : (v.filter fun q => !decide (q = 0)) ≠ [] := by
          intro z
          rw [List.filter_eq_nil_iff] at z
          have := z (v.getD cc 0) (getD_mem (by omega))
          rw [cc1] at this
          exact this (by decide +kernel)
        refine go_ifr (b := false) (et_is (et_or (et_not (et_of (ev_isL (vf rfl) rfl kl))) (fun _ => et_or (et_of (ev_neI (ev_len (vf rfl)) (ev_var rfl))) (fun _ => et_of (ev_eqD (eqLs eqFr) (ev_is (ev_lcf (K := K) (u := tFr K) (p := fun q : Rat => !decide (q = 0)) (f := fun q : Rat => q) (iv_list (vf rfl)) tgt_name (by simp) (Nat.lt_of_le_of_lt v10 (by decide)) (fun D φ F q _ _ => et_of (ev_neD eqFr (ev_var rfl) (ev_frac (K := K) (r := 0) ev_int ev_int rfl rfl) (lay_fr _) (lay_fr _) (by simp [eqFr]))) (fun D φ F q _ _ _ => ev_var rfl)) (List.map_id' _)) (ev_lst el_nil (by show 0 ≤ sizeLine; decide)) (lay_ls _ fun q _ => lay_fr q) (lay_ls _ fun q m => by cases m) (by simp [eqLs, eqFr]))))) (by rw [vl, decide_eq_false vne]; simp)) (fun h => by cases h) (fun _ => ?_)
        have fe : (c.filter fun r => !decide ((dotR r v).num = 0)) = [] := by
          rw [List.filter_eq_nil_iff]
          intro r m
          rw [vd r m]
          decide
        have okk : (!(v.all fun q => decide (q = 0)) && okV c (List.replicate c.length 0) v) = true := by
          rw [Bool.and_eq_true]
          refine ⟨?_, ?_⟩
          · cases e : v.all fun q => decide (q = 0) with
            | false => rfl
            | true =>
              rw [List.all_eq_true] at e
              have := e (v.getD cc 0) (getD_mem (by omega))
              rw [cc1] at this
              exact absurd this (by decide +kernel)
          · unfold okV
            rw [List.all_eq_true]
            intro p hp
            obtain ⟨a1, a2⟩ := List.of_mem_zip (a := p.1) (b := p.2) hp
            rw [vd _ a1, List.eq_of_mem_replicate a2]
            exact decide_eq_true rfl
        have vok : VsOk ⟨c, [], v⟩ := ⟨cne, fun r m => by rw [RO.wl r m]; exact vl.symm, by show v.length ≤ 4; omega, fun r m q mq => (qs_sz (RO.qs r m q mq)).mono (by decide), fun q m => (vs q m).mono (by decide)⟩
        refine go_if (b := false) (et_is (et_or (et_of (ev_neD (eqLs (eqLs eqFr)) (ev_is (ev_lcf (K := K) (u := tFs K) (p := fun r : RR => !decide ((dotR r v).num = 0)) (f := fun r : RR => r) (iv_list (ev_var rfl)) tgt_name (by simp) (Nat.lt_of_le_of_lt cl (by decide)) (fun D φ F r _ hm => et_of (ev_neI (ev_num (ev_call (z := (r, v)) (ea_cons (ev_var rfl) (ea_cons (vf rfl) ea_nil)) ⟨by show r.length ≤ 4; rw [RO.wl r hm]; exact n4, by show v.length = r.length; rw [RO.wl r hm]; exact vl, fun q m => (qs_sz (RO.qs r hm q m)).mono (by decide), fun q m => (vs q m).mono (by decide)⟩)) ev_int)) (fun D φ F r _ _ _ => ev_var rfl)) ((List.map_id' _).trans fe)) (ev_lst el_nil (by show 0 ≤ sizeLine; decide)) (lay_ls _ fun r m => by cases m) (lay_ls _ fun r m => by cases m) (by simp [eqLs, eqFr]))) (fun _ => et_not (et_of (ev_sameB ((evx_call (z := (c, v)) (ea_cons (ev_var rfl) (ea_cons (vf rfl) ea_nil)) ⟨vok, cl⟩ sTB).ev) ev_bl)))) (by rw [okk]; simp)) (fun h => by cases h) (fun _ => go_next fun σ H o => hnx () trivial σ H o)
    · let G2 : List (Option SF) := [some ((tSc K).is ns), some (tRf.is d), some (tInt.is (n : Int)), some ((tFss K).is c), none, none, none, some ((tOpt (tFs K)).is KK), none, none, none, none, none, none, none]
      refine go_seq (go_for (ι := Unit) (iv_range1 (n := 2) ev_int (by decide) (by decide)) tgt_name (fun _ _ => (C :: TB, G2)) (fun _ _ => True) () trivial (fun σ H o => o.sb (by walk_at "sb")) (fun k _ x f hx _ => ?_) (fun _ _ σ H o => ?_))
      · rw [List.getElem?_map] at hx
        obtain ⟨k', hk', rfl⟩ := Option.map_eq_some_iff.mp hx
        clear hx
        refine go_setx (evx_lc (K := K) (u := tFr K) (P := fun _ b => b = true) (R := fun _ y => QB 1 48 y) (iv_range1 (ev_var rfl) k1 k2) tgt_name (by simp) nl (fun D φ F i _ _ => Et.toX (P := fun b => b = true) et_yes rfl) (fun D φ F i _ _ _ => evx_call (z := (d, l, ns)) (ea_cons (ev_var rfl) ea_nil) trivial (List.singleton_sublist.mpr (List.mem_cons_of_mem _ (List.mem_cons_self ..))))) fun sd hsd => ?_
        have sd1 : sd.length = n := by rw [LcR.full hsd, rl]
        have sd2 : ∀ q ∈ sd, QB 1 48 q := LcR.all hsd fun _ _ _ _ h => h
        have sdq : ∀ q ∈ sd, QS q := fun q m => qb_qs (k := 1) (by decide) (sd2 q m)
        let W2 : RR → Wd := fun s => ⟨H0, fps TB, d :: S, C :: TB, [f], [some ((tSc K).is ns), some (tRf.is d), some (tInt.is (n : Int)), some ((tFss K).is c), none, none, none, some ((tOpt (tFs K)).is KK), some (tInt.is ((k' : Nat) : Int)), some ((tFs K).is s), none, none, none, none, none]⟩
        refine go_ifj (ι := RR) W2 (fun s => SidOk s n ∧ (k' = 1 → ∃ y, y.length = n ∧ s = c.map fun a => dotR a y)) (Et.toX (P := fun b => b = decide (((k' : Nat) : Int) = 1)) (et_of (ev_eqI (ev_var rfl) ev_int)) rfl) (fun hb nx hnx => ?_) (fun hb => ⟨sd, ⟨⟨sd1, sdq⟩, fun e => ?_⟩, fun σ H o => o.sb (by walk_at "sb")⟩) (fun s hs => ?_)
        · refine go_set1 (t := tFs K) (x := c.map fun a => dotR a sd) (ev_lcm (K := K) (u := tFr K) (f := fun a : RR => dotR a sd) (iv_list (ev_var rfl)) tgt_name (by simp) (Nat.lt_of_le_of_lt cl (by decide)) fun D φ F r _ hm => ev_call (z := (r, sd)) (ea_cons (ev_var rfl) (ea_cons (ev_var rfl) ea_nil)) ⟨by show r.length ≤ 4; rw [RO.wl r hm]; exact n4, by show sd.length = r.length; rw [RO.wl r hm]; exact sd1, fun q m => (qs_sz (RO.qs r hm q m)).mono (by decide), fun q m => (qs_sz (sdq q m)).mono (by decide)⟩) fun σ H o => hnx (c.map fun a => dotR a sd) ⟨⟨by rw [List.length_map]; exact hc.len, fun q m => ?_⟩, fun _ => ⟨sd, sd1, rfl⟩⟩ σ H (o.sb (by walk_at "sb"))
          obtain ⟨r, hm, rfl⟩ := List.mem_map.mp m
          have z : QB (n + 1) (((r.zip sd).map fun p => p.1 * p.2).length * (48 ^ (n + 1))) (dotR r sd) := QB.sum fun q mq => by
            obtain ⟨p, hp, rfl⟩ := List.mem_map.mp mq
            obtain ⟨a1, a2⟩ := List.of_mem_zip (a := p.1) (b := p.2) hp
            have u := ((hc.row r hm).2 _ a1).mul (sd2 _ a2)
            rw [Nat.pow_succ]
            exact u
          have ln : ((r.zip sd).map fun p => p.1 * p.2).length ≤ 4 := by rw [List.length_map, List.length_zip, sd1]; omega
          have u := (z.mono (Nat.mul_le_mul_right _ ln)).up (4 - n)
          rw [show n + 1 + (4 - n) = 5 by omega] at u
          refine u.mono ?_
          have e5 : 48 ^ (4 - n) * (4 * 48 ^ (n + 1)) = 4 * 48 ^ 5 := by
            rw [Nat.mul_left_comm, ← Nat.pow_add, show 4 - n + (n + 1) = 5 by omega]
          rw [e5]
          decide
        · exact absurd (show decide (((k' : Nat) : Int) = 1) = true by rw [e]; rfl) (by rw [← hb]; simp)
        · obtain ⟨SO, sc⟩ := hs
          have so : SvOk ⟨c, s, n⟩ := ⟨cl, cne, RO.wl, by show s.length = c.length; rw [SO.sl, hc.len], RO.sol SO⟩
          refine go_set (t := tSol K) (x := solR c s n) ((evx_call (z := (⟨c, s, n⟩ : SvA)) (ea_cons (ev_var rfl) (ea_cons (ev_var rfl) ea_nil)) so sTB).ev) ?_
          have one : KK = none → ∃ v, solR c s n = .one v := fun e => RO.one SO (hKK.trans e)
          have notOne : KK ≠ none → ∀ v, solR c s n ≠ .one v := fun e => RO.notOne SO (fun z => e (hKK.symm.trans z))
          have cons : k' = 1 → (solR c s n).isNone = false := fun e => by
            obtain ⟨y, yl, ye⟩ := sc e
            exact RO.cons SO yl ye
          have val := RO.val SO
          have vsz := RO.valSz SO
          generalize solR c s n = A at one notOne cons val vsz ⊢
          have wn : A.isNone = false → A.word ≠ "none" := fun e => by
            cases A with
            | none f => cases e
            | one v => show ("one" : Str) ≠ "none"; decide +kernel
            | several v k => show ("several" : Str) ≠ "none"; decide +kernel
          have nw : A.isNone = true → A.word = "none" := fun e => by
            cases A with
            | none f => rfl
            | one v => cases e
            | several v k => cases e
          have vv : A.vals = A.vl := by cases A <;> rfl
          have a0 : ∀ {W : Wd}, W.G[10]? = some (some ((tSol K).is A)) → Ev W (tOp (rIxT K) (tVar 10) (tC (.int 0))) tSt A.word := fun h => ev_sol0 (ev_var h)
          have a1 : ∀ {W : Wd}, W.G[10]? = some (some ((tSol K).is A)) → Ev W (tOp (rIxT K) (tVar 10) (tC (.int 1))) (tFs K) A.vl := fun h => ev_is (ev_sol1 (ev_var h)) vv
          have b0 : ((KK.isNone && !decide (A.word = "one")) || (!KK.isNone && decide (A.word = "one"))) = false := by
            cases hK : KK with
            | none =>
              obtain ⟨v, e⟩ := one hK
              rw [e]
              have : Sol.word (.one v) = "one" := rfl
              rw [decide_eq_true this]; rfl
            | some u =>
              have := notOne (by rw [hK]; simp)
              have w1 : A.word ≠ "one" := by
                cases A with
                | none f => show ("none" : Str) ≠ "one"; decide +kernel
                | one v => exact absurd rfl (this v)
                | several v k => show ("several" : Str) ≠ "one"; decide +kernel
              rw [decide_eq_false w1]; rfl
          refine go_ifr (b := false) (et_is (et_or (et_and (et_isN (ev_var (n := 7) (t := tOpt (tFs K)) (x := KK) rfl)) (fun _ => et_of (ev_neS (a0 rfl) ev_str))) (fun _ => et_and (et_nnS (ev_var (n := 7) (t := tOpt (tFs K)) (x := KK) rfl)) (fun _ => et_of (ev_eqS (a0 rfl) ev_str)))) b0) (fun h => by cases h) (fun _ => ?_)
          refine go_ifr (b := false) (et_is (et_and (et_of (ev_eqI (ev_var rfl) ev_int)) (fun _ => et_of (ev_eqS (a0 rfl) ev_str))) ?_) (fun h => by cases h) (fun _ => ?_)
          · by_cases e : k' = 1
            · rw [decide_eq_false (wn (cons e)), Bool.and_false]
            · rw [decide_eq_false (show ¬ ((k' : Nat) : Int) = 1 by omega)]; rfl
          refine go_if (b := !decide (A.word = "none")) (et_of (ev_neS (a0 rfl) ev_str)) (fun h => ?_) (fun _ => go_next fun σ H o => ⟨(), trivial, o.sb (by walk_at "sb")⟩)
          have an : A.isNone = false := by
            cases e : A.isNone with
            | false => rfl
            | true => rw [decide_eq_true (nw e)] at h; cases h
          obtain ⟨vl, vd⟩ := val an
          have vz := vsz an
          have ce : (c.map fun a => dotR a A.vl) = s := by
            refine List.ext_getElem? fun i => ?_
            rw [List.getElem?_map]
            by_cases il : i < c.length
            · have sl : i < s.length := by rw [SO.sl, ← hc.len]; exact il
              have := vd (c[i], s[i]) (List.mem_iff_getElem?.mpr ⟨i, by rw [List.getElem?_zip_eq_some]; exact ⟨List.getElem?_eq_getElem il, List.getElem?_eq_getElem sl⟩⟩)
              rw [List.getElem?_eq_getElem il, List.getElem?_eq_getElem sl]
              show some (dotR c[i] A.vl) = some s[i]
              rw [this]
            · rw [List.getElem?_eq_none (by omega), List.getElem?_eq_none (by rw [SO.sl, ← hc.len]; omega)]; rfl
          have layF : ∀ xs : RR, ((eqLs (K := K) eqFr).d xs).canLay0 = true := fun xs => lay_ls _ fun r _ => lay_fr r
          refine go_ifr (b := false) (et_is (et_of (ev_neD (eqLs eqFr) (ev_is (ev_lcm (K := K) (u := tFr K) (f := fun a : RR => dotR a A.vl) (iv_list (ev_var rfl)) tgt_name (by simp) (Nat.lt_of_le_of_lt cl (by decide)) fun D φ F r _ hm => ev_call (z := (r, A.vl)) (ea_cons (ev_var rfl) (ea_cons (a1 rfl) ea_nil)) ⟨by show r.length ≤ 4; rw [RO.wl r hm]; exact n4, by show A.vl.length = r.length; rw [RO.wl r hm]; exact vl, fun q m => (qs_sz (RO.qs r hm q m)).mono (by decide), fun q m => (vz q m).mono (by decide)⟩) ce) (ev_var rfl) (layF _) (layF _) (by simp [eqLs, eqFr]))) (by simp)) (fun h => by cases h) (fun _ => ?_)
          refine go_setx (evx_call (z := (d, l, ns)) (ea_cons (ev_var rfl) ea_nil) trivial sC) fun fac hfac => ?_
          have hfac : Sz 41 fac := hfac
          obtain hK | ⟨v, hK⟩ : KK = none ∨ ∃ v, KK = some v := by cases KK <;> simp
          · exact go_if (b := false) (et_is (et_nnS (ev_var (n := 7) (t := tOpt (tFs K)) (x := KK) rfl)) (by rw [hK]; rfl)) (fun h => by cases h) (fun _ => go_next fun σ H o => ⟨(), trivial, o.sb (by walk_at "sb")⟩)
          · obtain ⟨kl', _, kd⟩ := RO.ker (hKK.trans hK)
            have ks := RO.kerSz (hKK.trans hK)
            have vf : {W : Wd} → W.G[7]? = some (some ((tOpt (tFs K)).is KK)) → Ev W (tVar 7) (tFs K) v := fun h => ev_some (ev_is (ev_var h) hK)
            have me : ((List.range ((n : Int)).toNat).map fun (i : Nat) => (i : Int)).map (fun i => A.vl.getD i.toNat 0 + fac * v.getD i.toNat 0) = movR n A.vl fac v := by
              rw [List.map_map, Int.toNat_natCast]; rfl
            refine go_if (b := true) (et_is (et_nnS (ev_var (n := 7) (t := tOpt (tFs K)) (x := KK) rfl)) (by rw [hK]; rfl)) (fun _ => ?_) (fun h => by cases h)
            refine go_set (t := tFs K) (x := movR n A.vl fac v) (ev_is (ev_lcm (K := K) (u := tFr K) (f := fun i : Int => A.vl.getD i.toNat 0 + fac * v.getD i.toNat 0) (iv_range1 (ev_var rfl) k1 k2) tgt_name (by simp) nl fun D φ F i _ hm => ?_) me) ?_
            · obtain ⟨j, hj, rfl⟩ := List.mem_map.mp hm
              have hj := List.mem_range.mp hj
              have jn : j < n := by omega
              have g1 : Sz 130 (A.vl.getD ((j : Nat) : Int).toNat 0) := vz _ (getD_mem (by rw [vl, Int.toNat_natCast]; exact jn))
              have g2 : Sz 130 (v.getD ((j : Nat) : Int).toNat 0) := ks _ (getD_mem (by rw [kl', Int.toNat_natCast]; exact jn))
              exact ev_call (z := (A.vl.getD ((j : Nat) : Int).toNat 0, fac * v.getD ((j : Nat) : Int).toNat 0)) (ea_cons (ev_ixL (a1 rfl) (ev_var rfl) (atI_D (by omega) (by omega))) (ea_cons (ev_call (z := (fac, v.getD ((j : Nat) : Int).toNat 0)) (ea_cons (ev_var rfl) (ea_cons (ev_ixL (vf rfl) (ev_var rfl) (atI_D (by omega) (by omega))) ea_nil)) ⟨41, 130, by decide, hfac, g2⟩) ea_nil)) ⟨130, 171, by decide, g1, szM2 hfac g2⟩
            · have ok3 : okV c s (movR n A.vl fac v) = true := by
                refine okV_of RO fun p hp => ?_
                have rn := RO.wl _ (List.of_mem_zip (a := p.1) (b := p.2) hp).1
                have dm := dot_mov (f := fac) (a := p.1) (x := A.vl) (y := v) (by rw [vl, rn]) (by rw [kl', rn])
                rw [rn] at dm
                rw [dm, vd p hp, kd _ (List.of_mem_zip (a := p.1) (b := p.2) hp).1]
                grind
              have ml : (movR n A.vl fac v).length = n := by unfold movR; rw [List.length_map, List.length_range]
              have vok : VsOk ⟨c, s, movR n A.vl fac v⟩ := ⟨cne, fun r m => by rw [RO.wl r m]; exact ml.symm, by show (movR n A.vl fac v).length ≤ 4; omega, fun r m q mq => (qs_sz (RO.qs r m q mq)).mono (by decide), mov_sz vz ks hfac⟩
              exact go_if (b := false) (et_is (et_not (et_of (ev_sameB ((evx_call (z := (⟨c, s, movR n A.vl fac v⟩ : VsA)) (ea_cons (ev_var rfl) (ea_cons (ev_var rfl) (ea_cons (ev_var rfl) ea_nil))) vok sTB).ev) ev_bl))) (by rw [ok3]; rfl)) (fun h => by cases h) (fun _ => go_next fun σ H o => ⟨(), trivial, o.sb (by walk_at "sb")⟩)
      · dsimp only at o ⊢
        exact go_at o (go_end (y := true) ev_bl out rfl rfl cD2 sD2)
end
end Cs
set_option maxHeartbeats 4000000
namespace Cs
open PySem PySem.Spec PyProof.Rows L2
local macro_rules | `(tactic| walk_at "rd") => `(tactic| (first
  | (refine ⟨_, rfl, ?_⟩)
  | (refine ⟨_, _, rfl, rfl, ?_⟩)
  | (refine .inl ⟨_, rfl, ?_⟩)
  | (refine .inr ⟨_, rfl, ?_⟩)
  | (refine ⟨_, _, _, _, rfl, rfl, SqL.of upd_same, rfl, ?_⟩)
  | (refine ⟨_, _, _, _, rfl, rfl, upd_same, rfl, ?_⟩)
  | (refine ⟨_, ?xs, _, ?v, rfl, rfl, ?h, ?x, ?_⟩; (case h => first | exact SqL.of (by assumption) | exact SqT.of (by assumption) | assumption); (case x => first | rfl | exact atI_nat (j := 0) rfl | exact atI_nat (j := 1) rfl))))
local macro_rules | `(tactic| walk_at "isi") => `(tactic| (first
  | (refine ⟨_, _, _, _, _, rfl, .ty _, .base (.int _), kit_ty kit_it, ?_⟩)
  | (refine ⟨_, _, _, _, _, rfl, .ty _, .base (.int _), kit_ty kit_ib, ?_⟩)
  | (refine ⟨_, _, _, _, _, rfl, .ty _, .base (.int _), kit_ty kit_ii, ?_⟩)
  | (refine ⟨_, _, _, _, _, rfl, .ty _, .base (.bl _), kit_ty kit_bt, ?_⟩)
  | (refine ⟨_, _, _, _, _, rfl, .ty _, .base (.bl _), kit_ty kit_bb, ?_⟩)
  | (refine ⟨_, _, _, _, _, rfl, .ty _, .base (.bl _), kit_ty kit_bi, ?_⟩)))
theorem bdPlus (kV doc pm : Value) (an : Option Addr) (cdv ct : Value) (us : List Value) (hl : us.length = (["a", "b"] : List Str).length) : bindArgs (PySem.W.fnOf "plus" "plus" (defArgs sPlus) (defBody sPlus) (defScope sPlus) .none kV doc pm an cdv ct) ⟨us, []⟩ = pure ((["a", "b"] : List Str).zip us) := match us, hl with | [_, _], _ => rfl
theorem bdTimes (kV doc pm : Value) (an : Option Addr) (cdv ct : Value) (us : List Value) (hl : us.length = (["a", "b"] : List Str).length) : bindArgs (PySem.W.fnOf "times" "times" (defArgs sTimes) (defBody sTimes) (defScope sTimes) .none kV doc pm an cdv ct) ⟨us, []⟩ = pure ((["a", "b"] : List Str).zip us) := match us, hl with | [_, _], _ => rfl
theorem bdOppo (kV doc pm : Value) (an : Option Addr) (cdv ct : Value) (us : List Value) (hl : us.length = (["a"] : List Str).length) : bindArgs (PySem.W.fnOf "opposite" "opposite" (defArgs sOppo) (defBody sOppo) (defScope sOppo) .none kV doc pm an cdv ct) ⟨us, []⟩ = pure ((["a"] : List Str).zip us) := match us, hl with | [_], _ => rfl
theorem bdTotal (kV doc pm : Value) (an : Option Addr) (cdv ct : Value) (us : List Value) (hl : us.length = (["values"] : List Str).length) : bindArgs (PySem.W.fnOf "total" "total" (defArgs sTotal) (defBody sTotal) (defScope sTotal) .none kV doc pm an cdv ct) ⟨us, []⟩ = pure ((["values"] : List Str).zip us) := match us, hl with | [_], _ => rfl
theorem bdProds (kV doc pm : Value) (an : Option Addr) (cdv ct : Value) (us : List Value) (hl : us.length = (["first", "second"] : List Str).length) : bindArgs (PySem.W.fnOf "products" "products" (defArgs sProds) (defBody sProds) (defScope sProds) .none kV doc pm an cdv ct) ⟨us, []⟩ = pure ((["first", "second"] : List Str).zip us) := match us, hl with | [_, _], _ => rfl
theorem bdWhl (kV doc pm : Value) (an : Option Addr) (cdv ct : Value) (us : List Value) (hl : us.length = (["row"] : List Str).length) : bindArgs (PySem.W.fnOf "_whole" "_whole" (defArgs sWhl) (defBody sWhl) (defScope sWhl) .none kV doc pm an cdv ct) ⟨us, []⟩ = pure ((["row"] : List Str).zip us) := match us, hl with | [_], _ => rfl
theorem bdWid (kV doc pm : Value) (an : Option Addr) (cdv ct : Value) (us : List Value) (hl : us.length = (["rows"] : List Str).length) : bindArgs (PySem.W.fnOf "_width" "_width" (defArgs sWid) (defBody sWid) (defScope sWid) .none kV doc pm an cdv ct) ⟨us, []⟩ = pure ((["rows"] : List Str).zip us) := match us, hl with | [_], _ => rfl
theorem bdFRow (kV doc pm : Value) (an : Option Addr) (cdv ct : Value) (us : List Value) (hl : us.length = (["rows", "column"] : List Str).length) : bindArgs (PySem.W.fnOf "_first_row" "_first_row" (defArgs sFRow) (defBody sFRow) (defScope sFRow) .none kV doc pm an cdv ct) ⟨us, []⟩ = pure ((["rows", "column"] : List Str).zip us) := match us, hl with | [_, _], _ => rfl
theorem bdRed (kV doc pm : Value) (an : Option Addr) (cdv ct : Value) (us : List Value) (hl : us.length = (["row", "head", "column", "divisor"] : List Str).length) : bindArgs (PySem.W.fnOf "_reduced" "_reduced" (defArgs sRed) (defBody sRed) (defScope sRed) .none kV doc pm an cdv ct) ⟨us, []⟩ = pure ((["row", "head", "column", "divisor"] : List Str).zip us) := match us, hl with | [_, _, _, _], _ => rfl
theorem bdEch (kV doc pm : Value) (an : Option Addr) (cdv ct : Value) (us : List Value) (hl : us.length = (["table", "columns"] : List Str).length) : bindArgs (PySem.W.fnOf "_echelon" "_echelon" (defArgs sEch) (defBody sEch) (defScope sEch) .none kV doc pm an cdv ct) ⟨us, []⟩ = pure ((["table", "columns"] : List Str).zip us) := match us, hl with | [_, _], _ => rfl
theorem bdCsz (kV doc pm : Value) (an : Option Addr) (cdv ct : Value) (us : List Value) (hl : us.length = (["rows", "columns"] : List Str).length) : bindArgs (PySem.W.fnOf "_check_size" "_check_size" (defArgs sCsz) (defBody sCsz) (defScope sCsz) .none kV doc pm an cdv ct) ⟨us, []⟩ = pure ((["rows", "columns"] : List Str).zip us) := match us, hl with | [_, _], _ => rfl
theorem bdBes (kV doc pm : Value) (an : Option Addr) (cdv ct : Value) (us : List Value) (hl : us.length = (["rows", "sides"] : List Str).length) : bindArgs (PySem.W.fnOf "_beside" "_beside" (defArgs sBes) (defBody sBes) (defScope sBes) .none kV doc pm an cdv ct) ⟨us, []⟩ = pure ((["rows", "sides"] : List Str).zip us) := match us, hl with | [_, _], _ => rfl
theorem bdTrn (kV doc pm : Value) (an : Option Addr) (cdv ct : Value) (us : List Value) (hl : us.length = (["rows", "columns"] : List Str).length) : bindArgs (PySem.W.fnOf "_turned" "_turned" (defArgs sTrn) (defBody sTrn) (defScope sTrn) .none kV doc pm an cdv ct) ⟨us, []⟩ = pure ((["rows", "columns"] : List Str).zip us) := match us, hl with | [_, _], _ => rfl
theorem bdSpr (kV doc pm : Value) (an : Option Addr) (cdv ct : Value) (us : List Value) (hl : us.length = (["values", "pivots", "columns"] : List Str).length) : bindArgs (PySem.W.fnOf "_spread" "_spread" (defArgs sSpr) (defBody sSpr) (defScope sSpr) .none kV doc pm an cdv ct) ⟨us, []⟩ = pure ((["values", "pivots", "columns"] : List Str).zip us) := match us, hl with | [_, _, _], _ => rfl
theorem bdKer (kV doc pm : Value) (an : Option Addr) (cdv ct : Value) (us : List Value) (hl : us.length = (["table", "pivots", "columns"] : List Str).length) : bindArgs (PySem.W.fnOf "_first_kernel" "_first_kernel" (defArgs sKer) (defBody sKer) (defScope sKer) .none kV doc pm an cdv ct) ⟨us, []⟩ = pure ((["table", "pivots", "columns"] : List Str).zip us) := match us, hl with | [_, _, _], _ => rfl
theorem bdFac (kV doc pm : Value) (an : Option Addr) (cdv ct : Value) (us : List Value) (hl : us.length = (["rows", "sides", "columns"] : List Str).length) : bindArgs (PySem.W.fnOf "_factors" "_factors" (defArgs sFac) (defBody sFac) (defScope sFac) .none kV doc pm an cdv ct) ⟨us, []⟩ = pure ((["rows", "sides", "columns"] : List Str).zip us) := match us, hl with | [_, _, _], _ => rfl
theorem bdSlv (kV doc pm : Value) (an : Option Addr) (cdv ct : Value) (us : List Value) (hl : us.length = (["rows", "sides"] : List Str).length) : bindArgs (PySem.W.fnOf "solve" "solve" (defArgs sSlv) (defBody sSlv) (defScope sSlv) .none kV doc pm an cdv ct) ⟨us, []⟩ = pure ((["rows", "sides"] : List Str).zip us) := match us, hl with | [_, _], _ => rfl
theorem bdKl (kV doc pm : Value) (an : Option Addr) (cdv ct : Value) (us : List Value) (hl : us.length = (["rows", "columns"] : List Str).length) : bindArgs (PySem.W.fnOf "kernel_list" "kernel_list" (defArgs sKl) (defBody sKl) (defScope sKl) .none kV doc pm an cdv ct) ⟨us, []⟩ = pure ((["rows", "columns"] : List Str).zip us) := match us, hl with | [_, _], _ => rfl
theorem bdKn (kV doc pm : Value) (an : Option Addr) (cdv ct : Value) (us : List Value) (hl : us.length = (["rows", "columns"] : List Str).length) : bindArgs (PySem.W.fnOf "kernel" "kernel" (defArgs sKn) (defBody sKn) (defScope sKn) .none kV doc pm an cdv ct) ⟨us, []⟩ = pure ((["rows", "columns"] : List Str).zip us) := match us, hl with | [_, _], _ => rfl
theorem bdRnk (kV doc pm : Value) (an : Option Addr) (cdv ct : Value) (us : List Value) (hl : us.length = (["rows"] : List Str).length) : bindArgs (PySem.W.fnOf "rank" "rank" (defArgs sRnk) (defBody sRnk) (defScope sRnk) .none kV doc pm an cdv ct) ⟨us, []⟩ = pure ((["rows"] : List Str).zip us) := match us, hl with | [_], _ => rfl
theorem bdDeck (kV doc pm : Value) (an : Option Addr) (cdv ct : Value) (us : List Value) (hl : us.length = (["script"] : List Str).length) : bindArgs (PySem.W.fnOf "_law_deck" "_law_deck" (defArgs sDeck) (defBody sDeck) (defScope sDeck) .none kV doc pm an cdv ct) ⟨us, []⟩ = pure ((["script"] : List Str).zip us) := match us, hl with | [_], _ => rfl
theorem bdDraw (kV doc pm : Value) (an : Option Addr) (cdv ct : Value) (us : List Value) (hl : us.length = (["deck", "most"] : List Str).length) : bindArgs (PySem.W.fnOf "_law_draw" "_law_draw" (defArgs sDraw) (defBody sDraw) (defScope sDraw) .none kV doc pm an cdv ct) ⟨us, []⟩ = pure ((["deck", "most"] : List Str).zip us) := match us, hl with | [_, _], _ => rfl
theorem bdGcd (kV doc pm : Value) (an : Option Addr) (cdv ct : Value) (us : List Value) (hl : us.length = (["a", "b"] : List Str).length) : bindArgs (PySem.W.fnOf "_law_gcd" "_law_gcd" (defArgs sGcd) (defBody sGcd) (defScope sGcd) .none kV doc pm an cdv ct) ⟨us, []⟩ = pure ((["a", "b"] : List Str).zip us) := match us, hl with | [_, _], _ => rfl
theorem bdRatio (kV doc pm : Value) (an : Option Addr) (cdv ct : Value) (us : List Value) (hl : us.length = (["p", "q"] : List Str).length) : bindArgs (PySem.W.fnOf "_law_ratio" "_law_ratio" (defArgs sRatio) (defBody sRatio) (defScope sRatio) .none kV doc pm an cdv ct) ⟨us, []⟩ = pure ((["p", "q"] : List Str).zip us) := match us, hl with | [_, _], _ => rfl
theorem bdLAdd (kV doc pm : Value) (an : Option Addr) (cdv ct : Value) (us : List Value) (hl : us.length = (["a", "b"] : List Str).length) : bindArgs (PySem.W.fnOf "_law_add" "_law_add" (defArgs sLAdd) (defBody sLAdd) (defScope sLAdd) .none kV doc pm an cdv ct) ⟨us, []⟩ = pure ((["a", "b"] : List Str).zip us) := match us, hl with | [_, _], _ => rfl
theorem bdLTimes (kV doc pm : Value) (an : Option Addr) (cdv ct : Value) (us : List Value) (hl : us.length = (["a", "b"] : List Str).length) : bindArgs (PySem.W.fnOf "_law_times" "_law_times" (defArgs sLTimes) (defBody sLTimes) (defScope sLTimes) .none kV doc pm an cdv ct) ⟨us, []⟩ = pure ((["a", "b"] : List Str).zip us) := match us, hl with | [_, _], _ => rfl
theorem bdLTotal (kV doc pm : Value) (an : Option Addr) (cdv ct : Value) (us : List Value) (hl : us.length = (["values"] : List Str).length) : bindArgs (PySem.W.fnOf "_law_total" "_law_total" (defArgs sLTotal) (defBody sLTotal) (defScope sLTotal) .none kV doc pm an cdv ct) ⟨us, []⟩ = pure ((["values"] : List Str).zip us) := match us, hl with | [_], _ => rfl
theorem bdLDot (kV doc pm : Value) (an : Option Addr) (cdv ct : Value) (us : List Value) (hl : us.length = (["first", "second"] : List Str).length) : bindArgs (PySem.W.fnOf "_law_dot" "_law_dot" (defArgs sLDot) (defBody sLDot) (defScope sLDot) .none kV doc pm an cdv ct) ⟨us, []⟩ = pure ((["first", "second"] : List Str).zip us) := match us, hl with | [_, _], _ => rfl
theorem bdSml (kV doc pm : Value) (an : Option Addr) (cdv ct : Value) (us : List Value) (hl : us.length = (["deck"] : List Str).length) : bindArgs (PySem.W.fnOf "_law_small" "_law_small" (defArgs sSml) (defBody sSml) (defScope sSml) .none kV doc pm an cdv ct) ⟨us, []⟩ = pure ((["deck"] : List Str).zip us) := match us, hl with | [_], _ => rfl
theorem bdNmb (kV doc pm : Value) (an : Option Addr) (cdv ct : Value) (us : List Value) (hl : us.length = (["deck"] : List Str).length) : bindArgs (PySem.W.fnOf "_law_number" "_law_number" (defArgs sNmb) (defBody sNmb) (defScope sNmb) .none kV doc pm an cdv ct) ⟨us, []⟩ = pure ((["deck"] : List Str).zip us) := match us, hl with | [_], _ => rfl
theorem bdSame (kV doc pm : Value) (an : Option Addr) (cdv ct : Value) (us : List Value) (hl : us.length = (["actual", "due"] : List Str).length) : bindArgs (PySem.W.fnOf "_law_same" "_law_same" (defArgs sSame) (defBody sSame) (defScope sSame) .none kV doc pm an cdv ct) ⟨us, []⟩ = pure ((["actual", "due"] : List Str).zip us) := match us, hl with | [_, _], _ => rfl
theorem bdSolu (kV doc pm : Value) (an : Option Addr) (cdv ct : Value) (us : List Value) (hl : us.length = (["rows", "sides", "columns"] : List Str).length) : bindArgs (PySem.W.fnOf "solution" "solution" (defArgs sSolu) (defBody sSolu) (defScope sSolu) .none kV doc pm an cdv ct) ⟨us, []⟩ = pure ((["rows", "sides", "columns"] : List Str).zip us) := match us, hl with | [_, _, _], _ => rfl
theorem bdSvs (kV doc pm : Value) (an : Option Addr) (cdv ct : Value) (us : List Value) (hl : us.length = (["rows", "sides", "values"] : List Str).length) : bindArgs (PySem.W.fnOf "solves" "solves" (defArgs sSvs) (defBody sSvs) (defScope sSvs) .none kV doc pm an cdv ct) ⟨us, []⟩ = pure ((["rows", "sides", "values"] : List Str).zip us) := match us, hl with | [_, _, _], _ => rfl
theorem bdIsk (kV doc pm : Value) (an : Option Addr) (cdv ct : Value) (us : List Value) (hl : us.length = (["rows", "values"] : List Str).length) : bindArgs (PySem.W.fnOf "is_kernel" "is_kernel" (defArgs sIsk) (defBody sIsk) (defScope sIsk) .none kV doc pm an cdv ct) ⟨us, []⟩ = pure ((["rows", "values"] : List Str).zip us) := match us, hl with | [_, _], _ => rfl
theorem bdChk (kV doc pm : Value) (an : Option Addr) (cdv ct : Value) (us : List Value) (hl : us.length = (["rows", "columns"] : List Str).length) : bindArgs (PySem.W.fnOf "_check_lengths" "_check_lengths" (defArgs sChk) (defBody sChk) (defScope sChk) .none kV doc pm an cdv ct) ⟨us, []⟩ = pure ((["rows", "columns"] : List Str).zip us) := match us, hl with | [_, _], _ => rfl
theorem bdEnd (kV doc pm : Value) (an : Option Addr) (cdv ct : Value) (us : List Value) (hl : us.length = (["table", "pivots", "column"] : List Str).length) : bindArgs (PySem.W.fnOf "_ending" "_ending" (defArgs sEnd) (defBody sEnd) (defScope sEnd) .none kV doc pm an cdv ct) ⟨us, []⟩ = pure ((["table", "pivots", "column"] : List Str).zip us) := match us, hl with | [_, _, _], _ => rfl
theorem bdFraction0 (T : Addr) (kV doc pm : Value) (an : Option Addr) (cdv ct : Value) (us its : List Value) (hl : us.length = 2) (hi : its.length = 1) :
      ∃ k, bindArgs (PySem.W.fnOf "fraction" "fraction" (defArgs sFraction) (defBody sFraction) (defScope sFraction) (.ref T) kV doc pm an cdv ct) ⟨us, []⟩ = seqItems? (.ref T) >>= k ∧ k (some its.toArray) = pure ((["p", "q"] : List Str).zip (us ++ its.drop 1)) := match us, its, hl, hi with | [_, _], [_], _, _ => ⟨_, rfl, rfl⟩
theorem bdFraction1 (T : Addr) (kV doc pm : Value) (an : Option Addr) (cdv ct : Value) (us its : List Value) (hl : us.length = 1) (hi : its.length = 1) :
      ∃ k, bindArgs (PySem.W.fnOf "fraction" "fraction" (defArgs sFraction) (defBody sFraction) (defScope sFraction) (.ref T) kV doc pm an cdv ct) ⟨us, []⟩ = seqItems? (.ref T) >>= k ∧ k (some its.toArray) = pure ((["p", "q"] : List Str).zip (us ++ its.drop 0)) := match us, its, hl, hi with | [_], [_], _, _ => ⟨_, rfl, rfl⟩
theorem all_mk {l : PySem.W.OpenLaw} {w : World} {K : PySem.W.Frag} {h : Heap} {mg : Str → Option Value} {fa : Addr} {zZ zO : Addr} {tkM tk0 tk1 tk2 tk3 : Tok} {dZ dO : Option Addr} {nZ nO : Nat} {slZ slO : Array (Option Value)} (X : K.In h) (G : h.Ns mainGlobals mg) (hfa : mg "law" = some (.ref fa))
    (gPlus : FunG K mg "plus" sPlus ["a", "b"])
    (gTimes : FunG K mg "times" sTimes ["a", "b"])
    (gOppo : FunG K mg "opposite" sOppo ["a"])
    (gTotal : FunG K mg "total" sTotal ["values"])
    (gProds : FunG K mg "products" sProds ["first", "second"])
    (gWhl : FunG K mg "_whole" sWhl ["row"])
    (gWid : FunG K mg "_width" sWid ["rows"])
    (gFRow : FunG K mg "_first_row" sFRow ["rows", "column"])
    (gRed : FunG K mg "_reduced" sRed ["row", "head", "column", "divisor"])
    (gEch : FunG K mg "_echelon" sEch ["table", "columns"])
    (gCsz : FunG K mg "_check_size" sCsz ["rows", "columns"])
    (gBes : FunG K mg "_beside" sBes ["rows", "sides"])
    (gTrn : FunG K mg "_turned" sTrn ["rows", "columns"])
    (gSpr : FunG K mg "_spread" sSpr ["values", "pivots", "columns"])
    (gKer : FunG K mg "_first_kernel" sKer ["table", "pivots", "columns"])
    (gFac : FunG K mg "_factors" sFac ["rows", "sides", "columns"])
    (gSlv : FunG K mg "solve" sSlv ["rows", "sides"])
    (gKl : FunG K mg "kernel_list" sKl ["rows", "columns"])
    (gKn : FunG K mg "kernel" sKn ["rows", "columns"])
    (gRnk : FunG K mg "rank" sRnk ["rows"])
    (gDeck : FunG K mg "_law_deck" sDeck ["script"])
    (gDraw : FunG K mg "_law_draw" sDraw ["deck", "most"])
    (gGcd : FunG K mg "_law_gcd" sGcd ["a", "b"])
    (gRatio : FunG K mg "_law_ratio" sRatio ["p", "q"])
    (gLAdd : FunG K mg "_law_add" sLAdd ["a", "b"])
    (gLTimes : FunG K mg "_law_times" sLTimes ["a", "b"])
    (gLTotal : FunG K mg "_law_total" sLTotal ["values"])
    (gLDot : FunG K mg "_law_dot" sLDot ["first", "second"])
    (gSml : FunG K mg "_law_small" sSml ["deck"])
    (gNmb : FunG K mg "_law_number" sNmb ["deck"])
    (gSame : FunG K mg "_law_same" sSame ["actual", "due"])
    (gSolu : FunGC K mg "solution" sSolu ["rows", "sides", "columns"] (tbOf K "solution").1)
    (gSvs : FunGC K mg "solves" sSvs ["rows", "sides", "values"] (tbOf K "solves").1)
    (gIsk : FunGC K mg "is_kernel" sIsk ["rows", "values"] (tbOf K "is_kernel").1)
    (gChk : FunGC K mg "_check_lengths" sChk ["rows", "columns"] (tbOf K "_check_lengths").1)
    (gEnd : FunGC K mg "_ending" sEnd ["table", "pivots", "column"] (tbOf K "_ending").1)
    (gFraction : FunDG K mg "fraction" sFraction ["p", "q"] [.int 1])
    {f2 : Addr} {od2 an2 : Option Addr} {sl2 : Array (Option Value)} {oc2 kV2 dc2 pm2 cd2 ct2 : Value}
    (a2 : PySem.W.nsIn K mainGlobals "law" = some (some (.ref f2))) (l2 : K.lookup f2 = some ⟨oc2, od2, .func (PySem.W.fnOf "law" "law" (defArgs sLaw) (defBody sLaw) (defScope sLaw) .none kV2 dc2 pm2 an2 cd2 ct2), sl2⟩) (c2 : PySem.W.codeIn K cd2 "law" = true) (k2 : PySem.W.keepIn K (.ref f2) = true)
    (y_len : PySem.W.nsIn K mainGlobals "len" = some none)
    (y_int : PySem.W.nsIn K mainGlobals "int" = some none)
    (y_abs : PySem.W.nsIn K mainGlobals "abs" = some none)
    (y_range : PySem.W.nsIn K mainGlobals "range" = some none)
    (y_isinstance : PySem.W.nsIn K mainGlobals "isinstance" = some none)
    (y_list : PySem.W.nsIn K mainGlobals "list" = some none)
    (y_tuple : PySem.W.nsIn K mainGlobals "tuple" = some none)
    (y_bool : PySem.W.nsIn K mainGlobals "bool" = some none)
    (y_str : PySem.W.nsIn K mainGlobals "str" = some none)
    (y_all : PySem.W.nsIn K mainGlobals "all" = some none)
    (y_any : PySem.W.nsIn K mainGlobals "any" = some none)
    (y_zip : PySem.W.nsIn K mainGlobals "zip" = some none)
    (y_min : PySem.W.nsIn K mainGlobals "min" = some none)
    (y_enumerate : PySem.W.nsIn K mainGlobals "enumerate" = some none)
    (y_reversed : PySem.W.nsIn K mainGlobals "reversed" = some none)
    (y_sum : PySem.W.nsIn K mainGlobals "sum" = some none)
    (y_gcd : PySem.W.nsIn K mainGlobals "gcd" = some (some (.builtin "math.gcd")))
    (y_lcm : PySem.W.nsIn K mainGlobals "lcm" = some (some (.builtin "math.lcm")))
    (yZ : PySem.W.nsIn K mainGlobals "ZERO" = some (some (.ref zZ)))
    (yO : PySem.W.nsIn K mainGlobals "ONE" = some (some (.ref zO)))
    (yM : PySem.W.nsIn K mainGlobals "MOST" = some (some (.int 60 tkM)))
    (lZ : K.lookup zZ = some ⟨.type "tuple", dZ, .seq #[.int 0 tk0, .int 1 tk1] nZ, slZ⟩)
    (lO : K.lookup zO = some ⟨.type "tuple", dO, .seq #[.int 1 tk2, .int 1 tk3] nO, slO⟩)
    (kl : PySem.W.kitOne K (.type "list") (.type "list") = some true) :
    ∃ fd : FuncData, (∀ (s : Shared) (v : Value), BindsTo s fd ⟨[v], []⟩ [("script", v)]) ∧ ∀ base : Heap, K.In base → base.Ns mainGlobals mg → (∀ y ∈ (["solution", "solves", "is_kernel", "_check_lengths", "_ending"] : List Str), GxR.TabB base mg (tbOf K y).1 (tbOf K y).2) → FnOk l.prog w K mg base CX0 10 fa fd ["script"] (spLawL K 63 (tbsOf K ["solution", "solves", "is_kernel", "_check_lengths", "_ending"])) := by
  have e := hfa.symm.trans (PySem.W.mg_of X G a2)
  cases e
  have z_len := PySem.W.mg_none_of X G y_len
  have z_int := PySem.W.mg_none_of X G y_int
  have z_abs := PySem.W.mg_none_of X G y_abs
  have z_range := PySem.W.mg_none_of X G y_range
  have z_isinstance := PySem.W.mg_none_of X G y_isinstance
  have z_list := PySem.W.mg_none_of X G y_list
  have z_tuple := PySem.W.mg_none_of X G y_tuple
  have z_bool := PySem.W.mg_none_of X G y_bool
  have z_str := PySem.W.mg_none_of X G y_str
  have z_all := PySem.W.mg_none_of X G y_all
  have z_any := PySem.W.mg_none_of X G y_any
  have z_zip := PySem.W.mg_none_of X G y_zip
  have z_min := PySem.W.mg_none_of X G y_min
  have z_enumerate := PySem.W.mg_none_of X G y_enumerate
  have z_reversed := PySem.W.mg_none_of X G y_reversed
  have z_sum := PySem.W.mg_none_of X G y_sum
  refine ⟨PySem.W.fnOf "law" "law" (defArgs sLaw) (defBody sLaw) (defScope sLaw) .none kV2 dc2 pm2 an2 cd2 ct2, fun s v => .of_eq rfl, fun base _ _ tb => ?_⟩
  have hZ : ∀ H, SqT K H zZ [.int 0, .int 1] := fun H => .inr ⟨_, #[.int 0 tk0, .int 1 tk1], nZ, lZ, rfl, rfl, by show 2 ≤ sizeLine; decide, .cons ⟨tk0, rfl⟩ (.cons ⟨tk1, rfl⟩ .nil)⟩
  have hO : ∀ H, SqT K H zO [.int 1, .int 1] := fun H => .inr ⟨_, #[.int 1 tk2, .int 1 tk3], nO, lO, rfl, rfl, by show 2 ≤ sizeLine; decide, .cons ⟨tk2, rfl⟩ (.cons ⟨tk3, rfl⟩ .nil)⟩
  obtain ⟨cFraction, cFraction1⟩ := Cal.ofD (P := l.prog) (w := w) (base := base) (k := 1) (sp := spFrac) gFraction fun F => ok_fraction (k := 0) F (PySem.W.mg_of X G y_gcd)
  have cPlus : Cal l.prog w K mg base 2 "plus" ["a", "b"] (spPlusY K) := Cal.of gPlus fun F => ok_plus (k := 1) F cFraction
  have cTimes : Cal l.prog w K mg base 2 "times" ["a", "b"] (spTimesY K) := Cal.of gTimes fun F => ok_times (k := 1) F cFraction
  have cOppo : Cal l.prog w K mg base 1 "opposite" ["a"] (spOppY K) := Cal.of gOppo fun F => ok_oppo (k := 0) F
  have cTotal : Cal l.prog w K mg base 3 "total" ["values"] (spTotY K) := Cal.of gTotal fun F => ok_total (k := 2) F cPlus (PySem.W.mg_of X G yZ) hZ
  have cProds : Cal l.prog w K mg base 4 "products" ["first", "second"] (spProdY K) := Cal.of gProds fun F => ok_prods (k := 3) F cTotal (cTimes.mono (by decide)) z_zip
  have cWhl : Cal l.prog w K mg base 1 "_whole" ["row"] (spWhlS K) := Cal.of gWhl fun F => ok_whole (k := 0) F (PySem.W.mg_of X G y_lcm)
  have cWid : Cal l.prog w K mg base 1 "_width" ["rows"] (spWidth K) := Cal.of gWid fun F => ok_width (k := 0) F z_len
  have cFRow : Cal l.prog w K mg base 1 "_first_row" ["rows", "column"] (spFRow K) := Cal.of gFRow fun F => ok_frow (k := 0) F z_enumerate
  have cRed : Cal l.prog w K mg base 1 "_reduced" ["row", "head", "column", "divisor"] (spRed K) := Cal.of gRed fun F => ok_red (k := 0) F z_zip
  have cEch : Cal l.prog w K mg base 2 "_echelon" ["table", "columns"] (spEch K) := Cal.of gEch fun F => ok_ech (k := 1) F cFRow cRed z_range
  have tbSolu := tb "solution" (by simp)
  have tbSvs := tb "solves" (by simp)
  have tbIsk := tb "is_kernel" (by simp)
  have tbChk := tb "_check_lengths" (by simp)
  have tbEnd := tb "_ending" (by simp)
  have cChk : Cal l.prog w K mg base 1 "_check_lengths" ["rows", "columns"] (spChk K ((tbsOf K ["solution", "solves", "is_kernel", "_check_lengths", "_ending"]).map tab)) := Cal.ofC gChk fun F hc => ok_chk (k := 0) F hc tbChk (List.mem_map.mpr ⟨(tbOf K "_check_lengths").2, List.mem_map.mpr ⟨"_check_lengths", by simp, rfl⟩, rfl⟩) z_any z_len
  have cCsz : Cal l.prog w K mg base 1 "_check_size" ["rows", "columns"] (spCsz K) := Cal.of gCsz fun F => ok_csz (k := 0) F z_len (PySem.W.mg_of X G yM)
  have cBes : Cal l.prog w K mg base 2 "_beside" ["rows", "sides"] (spBes K) := Cal.of gBes fun F => ok_bes (k := 1) F cWhl z_zip
  have cTrn : Cal l.prog w K mg base 1 "_turned" ["rows", "columns"] (spTrn K) := Cal.of gTrn fun F => ok_trn (k := 0) F z_range
  have cEnd : Cal l.prog w K mg base 2 "_ending" ["table", "pivots", "column"] (spEnd K ((tbsOf K ["solution", "solves", "is_kernel", "_check_lengths", "_ending"]).map tab)) := Cal.ofC gEnd fun F hc => ok_end (k := 1) F hc tbEnd (List.mem_map.mpr ⟨(tbOf K "_ending").2, List.mem_map.mpr ⟨"_ending", by simp, rfl⟩, rfl⟩) cFraction z_range z_reversed z_len z_sum
  have cSpr : Cal l.prog w K mg base 1 "_spread" ["values", "pivots", "columns"] (spSpr K) := Cal.of gSpr fun F => ok_spr (k := 0) F z_zip (PySem.W.mg_of X G yZ) hZ
  have cKer : Cal l.prog w K mg base 3 "_first_kernel" ["table", "pivots", "columns"] (spKer K ((tbsOf K ["solution", "solves", "is_kernel", "_check_lengths", "_ending"]).map tab)) := Cal.of gKer fun F => ok_ker (k := 2) F cEnd (cOppo.mono (by decide)) (cSpr.mono (by decide)) z_range (PySem.W.mg_of X G yO) hO
  have cFac : Cal l.prog w K mg base 4 "_factors" ["rows", "sides", "columns"] (spFac K ((tbsOf K ["solution", "solves", "is_kernel", "_check_lengths", "_ending"]).map tab)) := Cal.of gFac fun F => ok_fac (k := 3) F (cTrn.mono (by decide)) (cBes.mono (by decide)) (cEch.mono (by decide)) (cEnd.mono (by decide)) (cSpr.mono (by decide)) z_len (PySem.W.mg_of X G yZ) hZ (PySem.W.mg_of X G yO) hO
  have cSolu : Cal l.prog w K mg base 5 "solution" ["rows", "sides", "columns"] (spSolu K ((tbsOf K ["solution", "solves", "is_kernel", "_check_lengths", "_ending"]).map tab)) := Cal.ofC gSolu fun F hc => ok_solu (k := 4) F hc tbSolu (List.mem_map.mpr ⟨(tbOf K "solution").2, List.mem_map.mpr ⟨"solution", by simp, rfl⟩, rfl⟩) (cBes.mono (by decide)) (cEch.mono (by decide)) (cEnd.mono (by decide)) (cSpr.mono (by decide)) (cKer.mono (by decide)) cFac z_any
  have cSlv : Cal l.prog w K mg base 6 "solve" ["rows", "sides"] (spSolve K ((tbsOf K ["solution", "solves", "is_kernel", "_check_lengths", "_ending"]).map tab)) := Cal.of gSlv fun F => ok_solve (k := 5) F (cWid.mono (by decide)) (cChk.mono (by decide)) (cCsz.mono (by decide)) cSolu z_len
  have cKl : Cal l.prog w K mg base 4 "kernel_list" ["rows", "columns"] (spKl K ((tbsOf K ["solution", "solves", "is_kernel", "_check_lengths", "_ending"]).map tab)) := Cal.of gKl fun F => ok_kl (k := 3) F (cWhl.mono (by decide)) (cEch.mono (by decide)) cKer
  have cKn : Cal l.prog w K mg base 5 "kernel" ["rows", "columns"] (spKl K ((tbsOf K ["solution", "solves", "is_kernel", "_check_lengths", "_ending"]).map tab)) := Cal.of gKn fun F => ok_kn (k := 4) F (cChk.mono (by decide)) (cCsz.mono (by decide)) cKl
  have cRnk : Cal l.prog w K mg base 3 "rank" ["rows"] (spRank K ((tbsOf K ["solution", "solves", "is_kernel", "_check_lengths", "_ending"]).map tab)) := Cal.of gRnk fun F => ok_rank (k := 2) F (cWid.mono (by decide)) (cChk.mono (by decide)) (cCsz.mono (by decide)) (cWhl.mono (by decide)) cEch z_len
  have cSvs : Cal l.prog w K mg base 8 "solves" ["rows", "sides", "values"] (spSvs K ((tbsOf K ["solution", "solves", "is_kernel", "_check_lengths", "_ending"]).map tab)) := Cal.ofC gSvs fun F hc => ok_svs (k := 4) F hc tbSvs (List.mem_map.mpr ⟨(tbOf K "solves").2, List.mem_map.mpr ⟨"solves", by simp, rfl⟩, rfl⟩) (cWid.mono (by decide)) cProds z_len z_all z_zip
  have cIsk : Cal l.prog w K mg base 9 "is_kernel" ["rows", "values"] (spIsk K ((tbsOf K ["solution", "solves", "is_kernel", "_check_lengths", "_ending"]).map tab)) := Cal.ofC gIsk fun F hc => ok_isk (k := 5) F hc tbIsk (List.mem_map.mpr ⟨(tbOf K "is_kernel").2, List.mem_map.mpr ⟨"is_kernel", by simp, rfl⟩, rfl⟩) cSvs z_len z_all (PySem.W.mg_of X G yZ) hZ
  have cDeck : Cal l.prog w K mg base 1 "_law_deck" ["script"] (spDeckN K) := Cal.of gDeck fun F => ok_deck (k := 0) F z_list
  have cDraw : Cal l.prog w K mg base 1 "_law_draw" ["deck", "most"] (spDrawA K) := Cal.of gDraw fun F => ok_draw (k := 0) F z_len z_int
  have cGcd : Cal l.prog w K mg base 1 "_law_gcd" ["a", "b"] spGcd := Cal.of gGcd fun F => ok_gcd (k := 0) F z_range z_int
  have cRatio : Cal l.prog w K mg base 2 "_law_ratio" ["p", "q"] spRatio := Cal.of gRatio fun F => ok_ratio (k := 1) F cGcd z_abs
  have cLAdd : Cal l.prog w K mg base 3 "_law_add" ["a", "b"] (spLAddY K) := Cal.of gLAdd fun F => ok_ladd (k := 2) F cRatio
  have cLTimes : Cal l.prog w K mg base 3 "_law_times" ["a", "b"] (spLTimesY K) := Cal.of gLTimes fun F => ok_ltimes (k := 2) F cRatio
  have cLTotal : Cal l.prog w K mg base 4 "_law_total" ["values"] (spLTotY K) := Cal.of gLTotal fun F => ok_ltotal (k := 3) F cLAdd
  have cLDot : Cal l.prog w K mg base 5 "_law_dot" ["first", "second"] (spLDotY K) := Cal.of gLDot fun F => ok_ldot (k := 4) F cLTotal (cLTimes.mono (by decide)) z_range z_min z_len
  have cSml : Cal l.prog w K mg base 3 "_law_small" ["deck"] (spSmall K) := Cal.of gSml fun F => ok_small (k := 2) F (cDraw.mono (by decide)) cRatio
  have cNmb : Cal l.prog w K mg base 3 "_law_number" ["deck"] (spNumb K) := Cal.of gNmb fun F => ok_numb (k := 2) F (cDraw.mono (by decide)) cRatio
  have cSame0 : Cal l.prog w K mg base 1 "_law_same" ["actual", "due"] spSame0 := Cal.of gSame fun F => ok_same0 (k := 0) F z_isinstance z_int z_bool z_tuple z_str
  have LP : LawP l.prog w K mg base 9 ((tbsOf K ["solution", "solves", "is_kernel", "_check_lengths", "_ending"]).map tab) := ⟨cDeck.mono (by decide), cDraw.mono (by decide), cSml.mono (by decide), cNmb.mono (by decide), cLTimes.mono (by decide), cLAdd.mono (by decide), cLDot.mono (by decide), cSame0.mono (by decide), cKn.mono (by decide), cRnk.mono (by decide), cSlv.mono (by decide), cSvs.mono (by decide), cIsk⟩
  exact ok_law (k := 9) (fun_mk (st := sLaw) l2 c2 k2) LP kl z_range z_len z_list z_isinstance
end Cs
open PySem PySem.W PyProof.Rows
set_option maxHeartbeats 0 in
theorem PySem.Challenge.cw_consol_k06_whole_kernel_or_one_holds : PySem.Challenge.rw_consol_k06_whole_kernel_or_one.Holds := by
  w_on; o_law; k_head; (case hw => w_witness2)
  k_fill
  refine Cs.walk_tabsL (l := PySem.Challenge.rw_consol_k06_whole_kernel_or_one) (n := 63) (k := 10) (x := "script") ["solution", "solves", "is_kernel", "_check_lengths", "_ending"] rfl (by decide) rfl ⟨rfl, by decide, by decide⟩ (fun w h Y => PySem.W.kIn_of Y) ?gTab ?gNd ?gF
  case gNd => exact fun w => of_decide_eq_true (by kernel_rfl)
  case gTab =>
    intro w y hy
    simp only [List.mem_cons, List.not_mem_nil, or_false] at hy
    rcases hy with rfl | rfl | rfl | rfl | rfl <;> exact ⟨by kernel_rfl, by kernel_rfl, by kernel_rfl⟩
  case gF =>
    intro w mg fa h KX G hmg
    refine' Cs.all_mk KX G hmg (Cs.FunG.mk Cs.bdPlus KX G ?a0 ?l0 ?c0 ?k0) (Cs.FunG.mk Cs.bdTimes KX G ?a1 ?l1 ?c1 ?k1) (Cs.FunG.mk Cs.bdOppo KX G ?a2 ?l2 ?c2 ?k2) (Cs.FunG.mk Cs.bdTotal KX G ?a3 ?l3 ?c3 ?k3) (Cs.FunG.mk Cs.bdProds KX G ?a4 ?l4 ?c4 ?k4) (Cs.FunG.mk Cs.bdWhl KX G ?a5 ?l5 ?c5 ?k5) (Cs.FunG.mk Cs.bdWid KX G ?a6 ?l6 ?c6 ?k6) (Cs.FunG.mk Cs.bdFRow KX G ?a7 ?l7 ?c7 ?k7) (Cs.FunG.mk Cs.bdRed KX G ?a8 ?l8 ?c8 ?k8) (Cs.FunG.mk Cs.bdEch KX G ?a9 ?l9 ?c9 ?k9) (Cs.FunG.mk Cs.bdCsz KX G ?a10 ?l10 ?c10 ?k10) (Cs.FunG.mk Cs.bdBes KX G ?a11 ?l11 ?c11 ?k11) (Cs.FunG.mk Cs.bdTrn KX G ?a12 ?l12 ?c12 ?k12) (Cs.FunG.mk Cs.bdSpr KX G ?a13 ?l13 ?c13 ?k13) (Cs.FunG.mk Cs.bdKer KX G ?a14 ?l14 ?c14 ?k14) (Cs.FunG.mk Cs.bdFac KX G ?a15 ?l15 ?c15 ?k15) (Cs.FunG.mk Cs.bdSlv KX G ?a16 ?l16 ?c16 ?k16) (Cs.FunG.mk Cs.bdKl KX G ?a17 ?l17 ?c17 ?k17) (Cs.FunG.mk Cs.bdKn KX G ?a18 ?l18 ?c18 ?k18) (Cs.FunG.mk Cs.bdRnk KX G ?a19 ?l19 ?c19 ?k19) (Cs.FunG.mk Cs.bdDeck KX G ?a20 ?l20 ?c20 ?k20) (Cs.FunG.mk Cs.bdDraw KX G ?a21 ?l21 ?c21 ?k21) (Cs.FunG.mk Cs.bdGcd KX G ?a22 ?l22 ?c22 ?k22) (Cs.FunG.mk Cs.bdRatio KX G ?a23 ?l23 ?c23 ?k23) (Cs.FunG.mk Cs.bdLAdd KX G ?a24 ?l24 ?c24 ?k24) (Cs.FunG.mk Cs.bdLTimes KX G ?a25 ?l25 ?c25 ?k25) (Cs.FunG.mk Cs.bdLTotal KX G ?a26 ?l26 ?c26 ?k26) (Cs.FunG.mk Cs.bdLDot KX G ?a27 ?l27 ?c27 ?k27) (Cs.FunG.mk Cs.bdSml KX G ?a28 ?l28 ?c28 ?k28) (Cs.FunG.mk Cs.bdNmb KX G ?a29 ?l29 ?c29 ?k29) (Cs.FunG.mk Cs.bdSame KX G ?a30 ?l30 ?c30 ?k30) (Cs.FunGC.mk Cs.bdSolu KX G ?aG0 ?lG0 ?cG0 ?kG0 ?tG0) (Cs.FunGC.mk Cs.bdSvs KX G ?aG1 ?lG1 ?cG1 ?kG1 ?tG1) (Cs.FunGC.mk Cs.bdIsk KX G ?aG2 ?lG2 ?cG2 ?kG2 ?tG2) (Cs.FunGC.mk Cs.bdChk KX G ?aG3 ?lG3 ?cG3 ?kG3 ?tG3) (Cs.FunGC.mk Cs.bdEnd KX G ?aG4 ?lG4 ?cG4 ?kG4 ?tG4) (Cs.FunDG.mk 1 Cs.bdFraction0 Cs.bdFraction1 KX G ?aD0 ?lD0 ?cD0 ?kD0 ?tD0 (by simp) ?vD0 rfl) ?aLw ?lLw ?cLw ?kLw ?y_len ?y_int ?y_abs ?y_range ?y_isinstance ?y_list ?y_tuple ?y_bool ?y_str ?y_all ?y_any ?y_zip ?y_min ?y_enumerate ?y_reversed ?y_sum ?y_gcd ?y_lcm ?yZ ?yO ?yM ?lZ ?lO ?kl
    (case a0 => k_is)
    (case l0 => k_is)
    (case c0 => k_is)
    (case k0 => k_is)
    (case a1 => k_is)
    (case l1 => k_is)
    (case c1 => k_is)
    (case k1 => k_is)
    (case a2 => k_is)
    (case l2 => k_is)
    (case c2 => k_is)
    (case k2 => k_is)
    (case a3 => k_is)
    (case l3 => k_is)
    (case c3 => k_is)
    (case k3 => k_is)
    (case a4 => k_is)
    (case l4 => k_is)
    (case c4 => k_is)
    (case k4 => k_is)
    (case a5 => k_is)
    (case l5 => k_is)
    (case c5 => k_is)
    (case k5 => k_is)
    (case a6 => k_is)
    (case l6 => k_is)
    (case c6 => k_is)
    (case k6 => k_is)
    (case a7 => k_is)
    (case l7 => k_is)
    (case c7 => k_is)
    (case k7 => k_is)
    (case a8 => k_is)
    (case l8 => k_is)
    (case c8 => k_is)
    (case k8 => k_is)
    (case a9 => k_is)
    (case l9 => k_is)
    (case c9 => k_is)
    (case k9 => k_is)
    (case a10 => k_is)
    (case l10 => k_is)
    (case c10 => k_is)
    (case k10 => k_is)
    (case a11 => k_is)
    (case l11 => k_is)
    (case c11 => k_is)
    (case k11 => k_is)
    (case a12 => k_is)
    (case l12 => k_is)
    (case c12 => k_is)
    (case k12 => k_is)
    (case a13 => k_is)
    (case l13 => k_is)
    (case c13 => k_is)
    (case k13 => k_is)
    (case a14 => k_is)
    (case l14 => k_is)
    (case c14 => k_is)
    (case k14 => k_is)
    (case a15 => k_is)
    (case l15 => k_is)
    (case c15 => k_is)
    (case k15 => k_is)
    (case a16 => k_is)
    (case l16 => k_is)
    (case c16 => k_is)
    (case k16 => k_is)
    (case a17 => k_is)
    (case l17 => k_is)
    (case c17 => k_is)
    (case k17 => k_is)
    (case a18 => k_is)
    (case l18 => k_is)
    (case c18 => k_is)
    (case k18 => k_is)
    (case a19 => k_is)
    (case l19 => k_is)
    (case c19 => k_is)
    (case k19 => k_is)
    (case a20 => k_is)
    (case l20 => k_is)
    (case c20 => k_is)
    (case k20 => k_is)
    (case a21 => k_is)
    (case l21 => k_is)
    (case c21 => k_is)
    (case k21 => k_is)
    (case a22 => k_is)
    (case l22 => k_is)
    (case c22 => k_is)
    (case k22 => k_is)
    (case a23 => k_is)
    (case l23 => k_is)
    (case c23 => k_is)
    (case k23 => k_is)
    (case a24 => k_is)
    (case l24 => k_is)
    (case c24 => k_is)
    (case k24 => k_is)
    (case a25 => k_is)
    (case l25 => k_is)
    (case c25 => k_is)
    (case k25 => k_is)
    (case a26 => k_is)
    (case l26 => k_is)
    (case c26 => k_is)
    (case k26 => k_is)
    (case a27 => k_is)
    (case l27 => k_is)
    (case c27 => k_is)
    (case k27 => k_is)
    (case a28 => k_is)
    (case l28 => k_is)
    (case c28 => k_is)
    (case k28 => k_is)
    (case a29 => k_is)
    (case l29 => k_is)
    (case c29 => k_is)
    (case k29 => k_is)
    (case a30 => k_is)
    (case l30 => k_is)
    (case c30 => k_is)
    (case k30 => k_is)
    (case aG0 => k_is)
    (case lG0 => k_is)
    (case cG0 => k_is)
    (case kG0 => k_is)
    (case tG0 => kernel_rfl)
    (case aG1 => k_is)
    (case lG1 => k_is)
    (case cG1 => k_is)
    (case kG1 => k_is)
    (case tG1 => kernel_rfl)
    (case aG2 => k_is)
    (case lG2 => k_is)
    (case cG2 => k_is)
    (case kG2 => k_is)
    (case tG2 => kernel_rfl)
    (case aG3 => k_is)
    (case lG3 => k_is)
    (case cG3 => k_is)
    (case kG3 => k_is)
    (case tG3 => kernel_rfl)
    (case aG4 => k_is)
    (case lG4 => k_is)
    (case cG4 => k_is)
    (case kG4 => k_is)
    (case tG4 => kernel_rfl)
    (case aD0 => k_is)
    (case lD0 => k_is)
    (case cD0 => k_is)
    (case kD0 => k_is)
    (case tD0 => k_is)
    (case vD0 => exact (.cons ⟨_, rfl⟩ .nil))
    (case aLw => k_is)
    (case lLw => k_is)
    (case cLw => k_is)
    (case kLw => k_is)
    (case y_len => k_is)
    (case y_int => k_is)
    (case y_abs => k_is)
    (case y_range => k_is)
    (case y_isinstance => k_is)
    (case y_list => k_is)
    (case y_tuple => k_is)
    (case y_bool => k_is)
    (case y_str => k_is)
    (case y_all => k_is)
    (case y_any => k_is)
    (case y_zip => k_is)
    (case y_min => k_is)
    (case y_enumerate => k_is)
    (case y_reversed => k_is)
    (case y_sum => k_is)
    (case y_gcd => k_is)
    (case y_lcm => k_is)
    (case yZ => k_is)
    (case yO => k_is)
    (case yM => k_is)
    (case lZ => k_is)
    (case lO => k_is)
    (case kl => first | rfl | k_is)
