import PyProof.Rows.All
import Wide.All
import OpenK.AllK
import Wide.FinOn
import HandS.ForMost
import HandS.Wide
import HandS.EndBits
import PyProof.ReprRoads
import PyProof.CallFns
import HandS.ExcInit
import HandS.IsInst
import HandS.MakeKw
import HandS.MakeKwOnly
import KE.KExcIs
import HandS.ExcValue
import HandS.Evl
import HandS.Walk
import PyProof.EqLayable
import HandS.Words
import HandS.Defaults
import PySem.Challenge.RW_sparkrows_k01_errors_made
set_option Elab.async false
set_option linter.all false
set_option maxRecDepth 100000
set_option maxHeartbeats 4000000
/-! The tape of draws: what it is made of, and what a pick leaves. -/
namespace Tp
open PySem PySem.Spec PyProof.Rows L2

/-- products and squares of very great ints -/
def MulFits (i j : Int) : Prop := i.natAbs.log2 + j.natAbs.log2 < 40000000
def SqFits (i j : Int) : Prop := j = 2 ∧ i.natAbs.log2 < 40000000
theorem bits_log (x : Int) : Builtin.Int.intBits x ≤ x.natAbs.log2 + 1 := by
  unfold Builtin.Int.intBits
  split <;> omega
theorem log_bits (x : Int) : x.natAbs.log2 ≤ Builtin.Int.intBits x := by
  unfold Builtin.Int.intBits
  split
  · rename_i h
    have : x = 0 := by simpa using h
    subst this
    decide
  · omega
section
variable {X : Cx}
theorem op_mulB : OpR X (binaryOp .Mult) (rI MulFits fun i j => .int (i * j)) := opI fun i j _ _ _ _ _ hc q => mul_int q (by
  have h1 := bits_log i
  have h2 := bits_log j
  have h3 : i.natAbs.log2 + j.natAbs.log2 < 40000000 := hc
  have e : bitsLine = 134217728 := by decide
  intro z
  have z2 := (Bool.and_eq_true_iff.mp z).2
  unfold Builtin.Int.intTooBig at z2
  have z3 := of_decide_eq_true z2
  rw [e] at z3
  omega)
theorem op_sqB : OpR X (binaryOp .Pow) (rI SqFits fun i j => .int (i ^ j.toNat)) := opI fun i j _ _ _ _ _ hc q => by
  obtain ⟨rfl, h⟩ := hc
  have h1 := bits_log i
  exact pow_int (by decide) (by omega) q
end
theorem lt_of_log {n b : Nat} (h : n.log2 ≤ b) : n < 2 ^ (b + 1) := by
  have h1 : n < 2 ^ (n.log2 + 1) := Nat.lt_log2_self
  exact Nat.lt_of_lt_of_le h1 (Nat.pow_le_pow_right (by decide) (by omega))
theorem mix_bits {m c : Int} {b : Nat} (hb : 64 ≤ b) (hm : 0 ≤ m) (hm2 : m < 2 ^ 40) (hc : c.natAbs < 2 ^ b) : (m * 30029 + c * c + 13).natAbs.log2 < 2 * b + 1 := by
  have hp : (2 : Nat) ^ 64 ≤ 2 ^ b := Nat.pow_le_pow_right (by decide) hb
  have h1 : c.natAbs * c.natAbs < 2 ^ b * 2 ^ b := Nat.mul_lt_mul'' hc hc
  have e1 : (c * c).natAbs = c.natAbs * c.natAbs := Int.natAbs_mul c c
  have e2 : (2 : Nat) ^ (2 * b) = 2 ^ b * 2 ^ b := by rw [← Nat.pow_add]; congr 1; omega
  have e3 : (2 : Nat) ^ (2 * b + 1) = 2 * 2 ^ (2 * b) := by rw [Nat.pow_succ, Nat.mul_comm]
  have h2 : 2 ^ b ≤ 2 ^ b * 2 ^ b := Nat.le_mul_of_pos_right _ (by omega)
  have h3 : (m * 30029 + c * c + 13).natAbs ≤ (m * 30029 + 13).natAbs + (c * c).natAbs := by omega
  have h4 : (m * 30029 + 13).natAbs < 2 ^ 64 := by omega
  refine PySem.Flt.log2_lt_of (by omega) ?_
  rw [e3, e2]
  omega

/-! ### readings -/
abbrev rAdd : R2 := rI0 fun i j => .int (i + j)
abbrev rSub : R2 := rI0 fun i j => .int (i - j)
abbrev rMul : R2 := rI CMul fun i j => .int (i * j)
abbrev rMulB : R2 := rI MulFits fun i j => .int (i * j)
abbrev rSqB : R2 := rI SqFits fun i j => .int (i ^ j.toNat)
abbrev rPow : R2 := rI CPow fun i j => .int (i ^ j.toNat)
abbrev rMod : R2 := rI (fun _ j => 0 < j) fun i j => .int (i % j)
abbrev rModN : R2 := rI (fun _ j => j ≠ 0) fun i j => .int (i.fmod j)
abbrev rDivN : R2 := rI CDivN fun i j => .int (i.fdiv j)
abbrev rLt : R2 := rI0 fun i j => .bl (decide (i < j))
abbrev rGe : R2 := rI0 fun i j => .bl (decide (j ≤ i))
abbrev rGt : R2 := rI0 fun i j => .bl (decide (j < i))
abbrev rInt1 : List V → Hp → VK → Prop := fun xs H Q => (∃ i, xs = [V.int i] ∧ Q (V.int i) H) ∨ ∃ k, xs = [V.bl k] ∧ Q (V.int (if k = true then 1 else 0)) H
abbrev rLen (K : PySem.W.Frag) : List V → Hp → VK → Prop := fun xs H Q => ∃ p ys, xs = [V.ref p] ∧ (SqL K H p ys ∨ SqT K H p ys) ∧ Q (V.int (ys.length : Nat)) H
abbrev c (i : Int) : TE := tC (.int i)
abbrev s (x : Str) : TE := tC (.str x)

def mixOf (m : Int) (n : Int) : Int := (m * 30029 + n * n + 13) ^ 2 % 2147483563 + 2
def mixAll (j : Int) (ns : List Int) : Int := ns.foldl mixOf (101 + j * 53)
def digitsOf (j : Int) (ns : List Int) : Int := if j < ns.length ∧ 10 ^ 18 ≤ ns.getD j.toNat 0 then ns.getD j.toNat 0 - 10 ^ 18 else 0
/-- what stands in the tape -/
def tapeKv (d m : Int) : List (Key × V) := [(.inr "digits", .int d), (.inr "mixed", .int m)]
/-- the numbers of a tape -/
def Rng (d m : Int) : Prop := 0 ≤ d ∧ 0 ≤ m ∧ m < 2 ^ 40
theorem mix_rng {m n : Int} : 0 ≤ mixOf m n ∧ mixOf m n < 2 ^ 40 := by
  unfold mixOf
  generalize (m * 30029 + n * n + 13) ^ 2 = x
  omega

abbrev NTape : List Str := ["script", "start", "mixed", "cell", "digits"]
def t_tape (K : PySem.W.Frag) : TS :=
  tSeq (tAsg (tOp rAdd (c 101) (tOp rMul (tVar 1) (c 53))) (gName 2))
  (tSeq (tFor (iList K (tVar 0)) (gName 3)
    (tAsg (tOp rAdd (tOp rMod (tCB rInt1 (tCons (tOp rSqB (tOp rAdd (tOp rAdd (tOp rMul (tVar 2) (c 30029)) (tOp rMulB (tVar 3) (tVar 3))) (c 13)) (c 2)) tNil)) (c 2147483563)) (c 2)) (gName 2)))
  (tSeq (tAsg (tIf (tAnd (tTest (tOp rLt (tVar 1) (tCB (rLen K) (tCons (tVar 0) tNil)))) (tTest (tOp rGe (tOp (rIxL K) (tVar 0) (tVar 1)) (tOp rPow (c 10) (c 18)))))
      (tOp rSub (tOp (rIxL K) (tVar 0) (tVar 1)) (tOp rPow (c 10) (c 18))) (c 0)) (gName 4))
  (tRet (tDisp [(s "digits", tVar 4), (s "mixed", tVar 2)]))))

/-- the script: ints of at most b bits each -/
def Scr (K : PySem.W.Frag) (H : Hp) (a : Addr) (ns : List Int) : Prop := SqL K H a (ns.map V.int) ∧ ns.length ≤ 63 ∧ ∀ z ∈ ns, Builtin.Int.intBits z ≤ 1048576
def spTape (K : PySem.W.Frag) : Sp := fun vs H Q _ => ∃ (a : Addr) (ns : List Int) (j : Nat), vs = [.ref a, .int (j : Int)] ∧ Scr K H a ns ∧ j ≤ 5 ∧
  ∀ p d m, H p = none → Rng d m → Q (.ref p) (upd H p (.dK (tapeKv d m)))
end Tp

set_option maxHeartbeats 4000000
namespace Tp
open PySem PySem.Spec PyProof.Rows L2
theorem map_int {ns : List Int} {i : Nat} {y : V} (h : (ns.map V.int)[i]? = some y) : ∃ z, ns[i]? = some z ∧ y = .int z := by
  rw [List.getElem?_map] at h
  cases e : ns[i]? with
  | none => rw [e] at h; cases h
  | some z => rw [e] at h; exact ⟨z, rfl, (Option.some.inj h).symm⟩
theorem pure_tape {K : PySem.W.Frag} (vs : List V) (H : Hp) (Q : VK) (E : XK) (h : spTape K vs H Q E) : t_tape K { nx := fun _ H' => Q .non H', rt := Q } (start NTape vs) H := by
  obtain ⟨a, ns, j, rfl, ⟨hS, hl, hb⟩, hj, k⟩ := h
  refine ⟨_, rfl, (j : Int), 53, rfl, rfl, .inl ⟨by omega, by omega⟩, 101, (j : Int) * 53, rfl, rfl, ?_⟩
  refine ⟨_, rfl, a, rfl, ⟨_, hS⟩, for_list (K := K) (a := a) (xs := ns.map V.int)
    (fun i σ H' => ∃ (m : Int) (v : Option V), σ = [some (.ref a), some (.int (j : Int)), some (.int m), v, none] ∧ (0 ≤ m ∧ m < 2 ^ 40) ∧ H' = H)
    ⟨101 + (j : Int) * 53, none, rfl, by omega, rfl⟩ (fun i σ H' _ ⟨_, _, _, _, e⟩ => e ▸ hS) ?_ ?_⟩
  · rintro i y σ H' hi ⟨m, v, rfl, hm, rfl⟩
    obtain ⟨z, hz, rfl⟩ := map_int hi
    have hbz := hb z (List.mem_of_getElem? hz)
    have hzl : z.natAbs.log2 ≤ 1048576 := Nat.le_trans (log_bits z) hbz
    have key : (m * 30029 + z * z + 13).natAbs.log2 < 40000000 := by
      generalize hbb : (1048577 : Nat) = b at *
      have h1 : z.natAbs < 2 ^ b := by
        rw [← hbb]
        exact lt_of_log hzl
      have h2 := mix_bits (b := b) (by omega) hm.1 hm.2 h1
      omega
    refine ⟨_, rfl, m, 30029, rfl, rfl, .inl ⟨by omega, by omega⟩, _, rfl, _, rfl, z, z, rfl, rfl, (by show _ + _ < _; omega), _, _, rfl, rfl, _, _, rfl, rfl, _, _, rfl, rfl, ⟨rfl, key⟩, ?_⟩
    refine .inl ⟨_, rfl, _, _, rfl, rfl, (by show (0 : Int) < 2147483563; decide), _, _, rfl, rfl, ?_⟩
    exact ⟨mixOf m z, some (.int z), rfl, mix_rng, rfl⟩
  · rintro σ H' ⟨m, v, rfl, hm, rfl⟩
    refine ⟨_, rfl, _, rfl, a, _, rfl, .inl hS, _, _, rfl, rfl, _, rfl, ?_⟩
    have fin : ∀ d : Int, 0 ≤ d → tRet (tDisp [(s "digits", tVar 4), (s "mixed", tVar 2)]) { nx := fun _ H' => Q .non H', rt := Q } [some (.ref a), some (.int (j : Int)), some (.int m), v, some (.int d)] H' := by
      intro d hd p hp
      exact ⟨_, rfl, _, rfl, upd_same, [(.inr "digits", .int d), (.inr "mixed", .int m)], rfl, (by show 2 ≤ 15; decide), by rw [upd_upd]; exact k p d m hp ⟨hd, hm.1, hm.2⟩⟩
    refine ite2 (fun hlt => ?_) (fun _ => ?_)
    · have hlt' : j < ns.length := by
        have := of_decide_eq_true hlt
        rw [List.length_map] at this
        omega
      have hat : atI (ns.map V.int) (j : Int) = some (.int (ns[j]'hlt')) := atI_nat (by rw [List.getElem?_map, List.getElem?_eq_getElem hlt'] <;> rfl)
      refine ⟨_, rfl, _, rfl, a, _, _, _, rfl, rfl, hS, hat, _, _, rfl, rfl, ⟨by decide, by decide, by decide⟩, _, _, rfl, rfl, _, rfl, ?_⟩
      refine ite2 (fun hge => ?_) (fun _ => ?_)
      · have hge' := of_decide_eq_true hge
        refine ⟨_, rfl, _, rfl, a, _, _, _, rfl, rfl, hS, hat, _, _, rfl, rfl, ⟨by decide, by decide, by decide⟩, _, _, rfl, rfl, ?_⟩
        exact fin _ (by omega)
      · exact fin 0 (by omega)
    · exact fin 0 (by omega)
end Tp

set_option maxHeartbeats 4000000
namespace Tp
open PySem PySem.Spec PyProof.Rows L2
abbrev NPick : List Str := ["tape", "many_here", "found", "once"]
abbrev tGet (x : Str) : TE := tDGet (tVar 0) (s x)
def t_pick : TS :=
  tSeq (tIfS (tTest (tOp rGe (tGet "digits") (tVar 1)))
    (tSeq (tAsg (tOp rMod (tCB rInt1 (tCons (tGet "digits") tNil)) (tVar 1)) (gName 2))
    (tSeq (sDPut (tVar 0) (s "digits") (tOp rDivN (tGet "digits") (tVar 1)))
    (tRet (tVar 2)))) tNext)
  (tSeq (sDPut (tVar 0) (s "mixed") (tOp rMod (tCB rInt1 (tCons (tOp rAdd (tOp rMul (tGet "mixed") (c 40014)) (c 1031)) tNil)) (c 2147483563)))
  (tSeq (tAsg (tOp rMod (tCB rInt1 (tCons (tOp rPow (tGet "mixed") (c 2)) tNil)) (c 2147483399)) (gName 3))
  (tRet (tOp rMod (tCB rInt1 (tCons (tOp rDivN (tOp rMod (tCB rInt1 (tCons (tOp rPow (tVar 3) (c 3)) tNil)) (c 998244353)) (c 13)) tNil)) (tVar 1)))))
/-- a tape stands at t -/
def Tape (H : Hp) (t : Addr) : Prop := ∃ d m, H t = some (.dK (tapeKv d m)) ∧ Rng d m
/-- H with another tape at t -/
def Drawn (H : Hp) (t : Addr) (H' : Hp) : Prop := ∃ d m, H' = upd H t (.dK (tapeKv d m)) ∧ Rng d m
def spPick : Sp := fun vs H Q _ => ∃ (t : Addr) (n : Int), vs = [.ref t, .int n] ∧ Tape H t ∧ 0 < n ∧ n < 2 ^ 30 ∧
  ∀ r H', 0 ≤ r → r < n → Drawn H t H' → Q (.int r) H'
theorem get_d {H : Hp} {t : Addr} {d m : Int} (h : H t = some (.dK (tapeKv d m))) : DGet H t (.str "digits") (some (.int d)) := DGet.k (k := .inr "digits") h
theorem get_m {H : Hp} {t : Addr} {d m : Int} (h : H t = some (.dK (tapeKv d m))) : DGet H t (.str "mixed") (some (.int m)) := DGet.k (k := .inr "mixed") h
theorem put_d {H : Hp} {t : Addr} {d m : Int} (e : Int) (h : H t = some (.dK (tapeKv d m))) : DPut H t (.str "digits") (.int e) (upd H t (.dK (tapeKv e m))) := DPut.k (k := .inr "digits") h (by show 2 < sizeLine; decide)
theorem put_m {H : Hp} {t : Addr} {d m : Int} (e : Int) (h : H t = some (.dK (tapeKv d m))) : DPut H t (.str "mixed") (.int e) (upd H t (.dK (tapeKv d e))) := DPut.k (k := .inr "mixed") h (by show 2 < sizeLine; decide)
theorem pure_pick (vs : List V) (H : Hp) (Q : VK) (E : XK) (h : spPick vs H Q E) : t_pick { nx := fun _ H' => Q .non H', rt := Q } (start NPick vs) H := by
  obtain ⟨t, n, rfl, ⟨d, m, hT, hd, hm, hm2⟩, hn, hn2, k⟩ := h
  refine ⟨_, rfl, t, _, rfl, get_d hT, _, rfl, d, n, rfl, rfl, _, rfl, ?_⟩
  refine ite2 (fun hge => ?_) (fun _ => ?_)
  · have hge' := of_decide_eq_true hge
    refine ⟨_, rfl, t, _, rfl, get_d hT, .inl ⟨_, rfl, _, rfl, _, _, rfl, rfl, hn, ?_⟩⟩
    refine ⟨_, rfl, t, _, rfl, get_d hT, _, rfl, _, _, rfl, rfl, ⟨by omega, by omega⟩, _, rfl, t, _, rfl, put_d _ hT, ?_⟩
    refine ⟨_, rfl, ?_⟩
    refine k _ _ (Int.emod_nonneg _ (by omega)) (Int.emod_lt_of_pos _ hn) ⟨_, m, rfl, ?_, hm, hm2⟩
    rw [Int.fdiv_eq_ediv_of_nonneg _ (by omega)]
    exact Int.ediv_nonneg hd (by omega)
  · refine ⟨_, rfl, t, _, rfl, get_m hT, _, _, rfl, rfl, .inl ⟨by omega, by omega⟩, _, _, rfl, rfl, .inl ⟨_, rfl, _, _, rfl, rfl, (by show (0 : Int) < 2147483563; decide), ?_⟩⟩
    refine ⟨_, rfl, t, _, rfl, put_m _ hT, ?_⟩
    have e1 : 0 ≤ (m * 40014 + 1031) % 2147483563 := Int.emod_nonneg _ (by decide)
    have e2 : (m * 40014 + 1031) % 2147483563 < 2147483563 := Int.emod_lt_of_pos _ (by decide)
    generalize hm' : (m * 40014 + 1031) % 2147483563 = m' at *
    refine ⟨_, rfl, t, _, rfl, get_m upd_same, _, _, rfl, rfl, ⟨by decide, by decide, by omega⟩, .inl ⟨_, rfl, _, _, rfl, rfl, (by show (0 : Int) < 2147483399; decide), ?_⟩⟩
    have e3 : 0 ≤ m' ^ (2 : Int).toNat % 2147483399 := Int.emod_nonneg _ (by decide)
    have e4 : m' ^ (2 : Int).toNat % 2147483399 < 2147483399 := Int.emod_lt_of_pos _ (by decide)
    generalize hx' : m' ^ (2 : Int).toNat % 2147483399 = x at *
    refine ⟨_, rfl, _, _, rfl, rfl, ⟨by decide, by decide, by omega⟩, .inl ⟨_, rfl, _, _, rfl, rfl, (by show (0 : Int) < 998244353; decide), _, _, rfl, rfl, ⟨by decide, by decide⟩, .inl ⟨_, rfl, _, rfl, _, _, rfl, rfl, hn, ?_⟩⟩⟩
    exact k _ _ (Int.emod_nonneg _ (by omega)) (Int.emod_lt_of_pos _ hn) ⟨d, m', rfl, hd, e1, by omega⟩

/-! ### one of things -/
abbrev NOne : List Str := ["tape", "things"]
def t_one (K : PySem.W.Frag) : TS := tRet (tOp (rIxL K) (tVar 1) (tCall spPick [] E0 (tCons (tVar 0) (tCons (tCB (rLen K) (tCons (tVar 1) tNil)) tNil))))
def spOne (K : PySem.W.Frag) : Sp := fun vs H Q _ => ∃ (t l : Addr) (xs : List V), vs = [.ref t, .ref l] ∧ Tape H t ∧ SqL K H l xs ∧ l ≠ t ∧ 0 < xs.length ∧ xs.length < 2 ^ 30 ∧
  ∀ (i : Nat) v H', xs[i]? = some v → Drawn H t H' → Q v H'
theorem seq_drawn {K : PySem.W.Frag} {H H' : Hp} {t l : Addr} {xs : List V} (h : SqL K H l xs) (n : l ≠ t) (dr : Drawn H t H') : SqL K H' l xs := by
  obtain ⟨d, m, rfl, _⟩ := dr
  rcases h with (h | ⟨o, h⟩) | h
  · exact .inl (.inl (by rw [upd_ne n]; exact h))
  · exact .inl (.inr ⟨o, by rw [upd_ne n]; exact h⟩)
  · exact .inr h
theorem pure_one {K : PySem.W.Frag} (vs : List V) (H : Hp) (Q : VK) (E : XK) (h : spOne K vs H Q E) : t_one K { nx := fun _ H' => Q .non H', rt := Q } (start NOne vs) H := by
  obtain ⟨t, l, xs, rfl, hT, hl, ne, h0, h1, k⟩ := h
  refine ⟨_, rfl, _, rfl, _, rfl, l, xs, rfl, .inl hl, t, _, rfl, hT, by omega, by omega, fun r H' r0 r1 dr => ?_⟩
  obtain ⟨i, rfl⟩ : ∃ i : Nat, r = (i : Int) := ⟨r.toNat, by omega⟩
  have hi : i < xs.length := by omega
  refine ⟨l, xs, _, xs[i], rfl, rfl, seq_drawn hl ne dr, atI_nat (List.getElem?_eq_getElem hi), ?_⟩
  exact k i _ H' (List.getElem?_eq_getElem hi) dr
end Tp

set_option maxHeartbeats 4000000
namespace Tp
open PySem PySem.Spec PyProof.Rows L2
def keyD : Key → PyData
  | .inl i => .int i
  | .inr x => .str x
/-- v stands for the data d: what Dp says, or a dict with ints as values -/
inductive Dat (K : PySem.W.Frag) (H : Hp) : V → PyData → Prop
  | dp {v : V} {d : PyData} : Dp K H v d → Dat K H v d
  | dk {a : Addr} {kvs : List (Key × Int)} : H a = some (.dK (kvs.map fun p => (p.1, V.int p.2))) → Dat K H (.ref a) (.dict (kvs.map fun p => (keyD p.1, .int p.2)))
mutual
theorem dp_noDict {K : PySem.W.Frag} {H : Hp} : ∀ (d : PyData) (v : V), Dp K H v d → d.hasDict = false
  | .none, _, _ => rfl
  | .bool _, _, _ => rfl
  | .int _, _, _ => rfl
  | .str _, _, _ => rfl
  | .list ds, _, h => by
    cases h with
    | lst _ ha => simpa only [PyData.hasDict] using dpAll_noDict ds _ ha
  | .tuple ds, _, h => by
    cases h with
    | tup _ ha => simpa only [PyData.hasDict] using dpAll_noDict ds _ ha
  | .dict _, _, h => by cases h
theorem dpAll_noDict {K : PySem.W.Frag} {H : Hp} : ∀ (ds : List PyData) (vs : List V), DpAll K H vs ds → PyData.hasDictAll ds = false
  | [], _, _ => rfl
  | d :: ds, _, h => by
    cases h with
    | cons h1 h2 => simp only [PyData.hasDictAll, dp_noDict d _ h1, dpAll_noDict ds _ h2, Bool.or_self]
end
theorem reads_keys {h : Heap} (P : Program) (w : World) : ∀ {kvs : List (Key × Int)} {vs : List (Key × Value)} {es : List DictEntry}, KV (kvs.map fun p => (p.1, V.int p.2)) vs → Pairs (mixKind P w) es vs →
    ReadsAll h (es.map (·.key)) ((kvs.map fun p => (keyD p.1, PyData.int p.2)).map (·.1)) [] ∧ ReadsAll h (es.map (·.val)) ((kvs.map fun p => (keyD p.1, PyData.int p.2)).map (·.2)) []
  | [], _, _, r, q => by
    cases r
    cases q
    exact ⟨.nil, .nil⟩
  | (k, i) :: kvs, _, _, r, q => by
    cases r with
    | cons r1 r2 =>
      cases q with
      | cons q1 q2 q3 =>
        obtain ⟨ih1, ih2⟩ := reads_keys (h := h) P w r2 q3
        obtain ⟨e1, t, e2⟩ := r1
        dsimp only at e1 e2
        constructor
        · have q1' := q1
          rw [← e1, mixKind_is] at q1'
          rcases keyIs_shape q1' with ⟨j, u, rfl, e⟩ | ⟨x, u, rfl, e⟩
          · rw [List.map_cons, e]
            exact ReadsAll.cons (as := []) (Reads.int j u) ih1
          · rw [List.map_cons, e]
            exact ReadsAll.cons (as := []) (Reads.str x u) ih1
        · rw [List.map_cons, q2, e2]
          exact ReadsAll.cons (as := []) (Reads.int i t) ih2
section
variable {X : Cx} {pins : List (Addr × Obj)} {σ : L2.St} {H : Hp} {s : Shared}
theorem dat_reads (I : Inv X pins σ H s) {v : V} {u : Value} {d : PyData} (h : Dat X.K H v d) (r : RelV v u) : ∃ as, Reads s.heap u d as ∧ (d.hasDict = true → sysModules ∉ as) := by
  cases h with
  | dp h =>
    obtain ⟨as, q⟩ := Dp.reads I d v u h r
    exact ⟨as, q, PySem.PyData.noDict_hsm (dp_noDict d v h)⟩
  | @dk a kvs h =>
    cases r
    obtain ⟨_, hsm, vs, rv, o, es, ep, ho, ⟨hc, _, _⟩, hd, _, hp, _⟩ := I.hok a _ h
    obtain ⟨q1, q2⟩ := reads_keys (h := s.heap) X.prog X.w rv hp
    refine ⟨_, Reads.dict ho hc hd q1 q2, fun _ hm => ?_⟩
    have e : sysModules = a := by simpa using hm
    rw [e] at hsm
    simp at hsm
end
/-- repr of data -/
def rRepr (K : PySem.W.Frag) : List V → Hp → VK → Prop := fun xs H Q => ∃ v d, xs = [v] ∧ Dat K H v d ∧ d.showable = true ∧ d.shown.length ≤ sizeLine ∧ d.depth ≤ 60 ∧ Q (.str d.shown) H
theorem call_reprD {X : Cx} (hg : X.A.guards = some []) (hu : X.A.units + 64 < cLine) : CallR X (.builtin "repr") (rRepr X.K) := by
  intro pins s σ H xs us Q I r h
  obtain ⟨v, d, rfl, hD, hs, hz, hd, q⟩ := h
  obtain ⟨u, rfl⟩ : ∃ u, us = [u] := by
    cases r with
    | cons _ r2 => cases r2; exact ⟨_, rfl⟩
  have ru : RelV v u := by
    cases r with
    | cons r1 _ => exact r1
  obtain ⟨as, hr, hm⟩ := dat_reads I hD ru
  cases hr with
  | none => exact PySem.P.repr_of_none ⟨.str _, H, I.tok _, ⟨_, rfl⟩, q⟩
  | bool b => exact PySem.P.repr_of_bool ⟨.str _, H, I.tok _, ⟨_, rfl⟩, q⟩
  | int i t => exact PySem.P.repr_of_int (by simpa [PyData.showable] using hs) ⟨.str _, H, I.tok _, ⟨_, rfl⟩, q⟩
  | str x t => exact PySem.P.repr_of_str ⟨.str _, H, I.tok _, ⟨_, rfl⟩, q⟩ (by simpa only [PyData.shown] using hz)
  | list h1 h2 h3 h4 => exact repr_of_reads' (.list h1 h2 h3 h4) hs hm hg (by omega) (fun _ _ e => e) (fun h' u tk hk => ⟨.str _, H, I.kept (h' := h') (t' := tk) hk, ⟨_, rfl⟩, q⟩) hz
  | tuple h1 h2 h3 h4 => exact repr_of_reads' (.tuple h1 h2 h3 h4) hs hm hg (by omega) (fun _ _ e => e) (fun h' u tk hk => ⟨.str _, H, I.kept (h' := h') (t' := tk) hk, ⟨_, rfl⟩, q⟩) hz
  | dict h1 h2 h3 h4 h5 => exact repr_of_reads' (.dict h1 h2 h3 h4 h5) hs hm hg (by omega) (fun _ _ e => e) (fun h' u tk hk => ⟨.str _, H, I.kept (h' := h') (t' := tk) hk, ⟨_, rfl⟩, q⟩) hz
end Tp

set_option maxHeartbeats 4000000
/-! An own error class over ValueError, called by a keyword. -/
namespace Kx
open PySem PySem.W PySem.Calls PyProof.Rows PySem.HandSPX
section
open Builtin Builtin.ObjectAttr
variable {prog : Program} {w : World} {M : Model} {A : Around} {E : Value → Shared → Prop} {R : Result → Shared → Prop} {h : Heap} {g : Array GenState} {d : Drawn} {t : Nat} {os : OsState}
variable {nm q : Str} {C N : Addr} {bs bm bmB : List Value} {hdct : Bool} {sn : List Str} {sub : List Value} {ab : Bool} {col : Option Bool} {dd : Option Addr}
  {k0 k1 k2 k3 k5 : Option Value} {B newId initId : String} {kw : List (Str × Value)}
abbrev Ecls (nm q : Str) (C N : Addr) (bs bm : List Value) (hdct : Bool) (sn : List Str) (sub : List Value) (ab : Bool) (col : Option Bool) (dd : Option Addr) (k0 k1 k2 k3 k5 : Option Value) (newId : String) (h : Heap) : Prop :=
  h.get? C = some (excClassObj nm q C N bs bm hdct sn sub ab col dd k0 k1 k2 k3 k5 newId)
theorem checkN (F : ExcBaseFacts B newId initId bmB) (hT : ∀ X : String, bm.contains (.type X) = bmB.contains (.type X)) {Q : Unit → Shared → Prop}
    (hC : Ecls nm q C N bs bm hdct sn sub ab col dd k0 k1 k2 k3 k5 newId h) (hq : Q () ⟨h, g, d, t, os⟩) :
    wpAny M A (checkBuiltinCall newId ⟨[.ref C], kw⟩) Q E ⟨h, g, d, t, os⟩ := by
  have hin : (Value.ref C :: bm).contains (.type B) = true := by
    rw [List.contains_cons, hT, F.hasB]
    simp
  have st := F.noStar
  have hC' : h.get? C = some (excClassObj nm q C N bs bm hdct sn sub ab col dd k0 k1 k2 k3 k5 newId) := hC
  simp only [checkBuiltinCall, F.newKind, F.newSplit, F.newRow]
  repeat (first
    | refine wpAny_loadPart_at hC' ?_
    | (refine wpAny_isSubtype_exc hC' ?_; rw [hin])
    | refine wpAny_staticBase_exc hC' ?_
    | refine wpAny_madeBy_exc hC' ?_
    | simp only [bne_self_eq_false, Bool.false_eq_true, if_false]
    | wp_step)
  exact hq
theorem newK (F : ExcBaseFacts B newId initId bmB) (hT : ∀ X : String, bm.contains (.type X) = bmB.contains (.type X))
    (hC : Ecls nm q C N bs bm hdct sn sub ab col dd k0 k1 k2 k3 k5 newId h)
    (hq : R (.ok (.ret (.ref (h.objs.size + 1)))) ⟨(h.push (W.kdv_tup [])).push (excO C h.objs.size), g, d, t, os⟩) :
    codeAny (model prog w) A (.builtin newId ⟨[.ref C], kw⟩) R ⟨h, g, d, t, os⟩ := by
  have en := F.ends
  have hC' : h.get? C = some (excClassObj nm q C N bs bm hdct sn sub ab col dd k0 k1 k2 k3 k5 newId) := hC
  have inB : (Value.ref C :: bm).contains (.type B) = true := by
    rw [List.contains_cons, hT, F.hasB]
    simp
  have noA : (Value.ref C :: bm).contains (.type "AttributeError") = false := by
    rw [List.contains_cons, hT, F.noAttr]
    rfl
  have noN : (Value.ref C :: bm).contains (.type "NameError") = false := by
    rw [List.contains_cons, hT, F.noName]
    rfl
  have hz : ([] : List Value).length ≤ sizeLine := by decide
  refine codeAny_builtinAt F.entry ?_
  unfold Builtin.«BaseException.__new__»
  refine PySem.wpAt_bind ?_
  show PySem.wpAt _ _ _ (stack >>= _) _ _ _
  refine PySem.wpAt_bind (PySem.wpAt_stack fun p below => PySem.wpAt_of_wpAny ?_)
  wp_walk
  refine PySem.wpAt_of_wpAny ?_
  rw [F.owner]
  repeat (first
    | with_reducible refine wpAny_madeHere_exc F.canon hC' ?_
    | with_reducible refine wpAny_loadPart_at hC' ?_
    | (with_reducible refine wpAny_isSubtype_exc hC' ?_; first | rw [inB] | rw [noA] | rw [noN])
    | wp_step)
  show R _ _
  rw [Heap.size_push]
  exact hq
theorem typeK (F : ExcBaseFacts B newId initId bmB) (hT : ∀ X : String, bm.contains (.type X) = bmB.contains (.type X)) {fI : Addr} {Q : Fin → Shared → Prop}
    (hC : Ecls nm q C N bs bm hdct sn sub ab col dd k0 k1 k2 k3 k5 newId h)
    (hi : W.Looks (model prog w) h (typeLookup (.ref C) "__init__") (some (.ref fI))) (hb : ∀ self, W.Looks (model prog w) h (bindSpecial (.ref fI) self) (.ref fI, [self]))
    (hq : codeAny (model prog w) A (.call (.ref fI) ⟨[.ref (h.objs.size + 1)], kw⟩)
      (fun r s' => match r with
        | .ok (.ret v) => v = .none ∧ Q (.done (.ret (.ref (h.objs.size + 1)))) s'
        | .ok _ => False
        | .error e => E e s')
      ⟨(h.push (W.kdv_tup [])).push (excO C h.objs.size), g, d, t, os⟩) :
    wpAny (model prog w) A (Builtin.«type.__call__» ⟨[.ref C], kw⟩) Q E ⟨h, g, d, t, os⟩ := by
  have hC' : h.get? C = some (excClassObj nm q C N bs bm hdct sn sub ab col dd k0 k1 k2 k3 k5 newId) := hC
  repeat (first
    | with_reducible refine wpAny_loadPart_at hC' ?_
    | with_reducible refine wpAny_madeBy_exc hC' ?_
    | wp_step)
  refine codeAny_call_builtin_code (Code.quiet_builtin _ F.quiet) (checkN F hT hC ?_)
  refine newK F hT hC ?_
  show wpAny _ _ _ _ _ _
  have k : ∀ b o, h.get? b = some o → ((h.push (W.kdv_tup [])).push (excO C h.objs.size)).get? b = some o :=
    fun b o e => Heap.get?_push_of_some _ (Heap.get?_push_of_some _ e)
  have hD := k _ _ hC'
  have ha : ((h.push (W.kdv_tup [])).push (excO C h.objs.size)).get? (h.objs.size + 1) = some (excO C h.objs.size) := by heap_get
  have inC : (Value.ref C :: bm).contains (.ref C) = true := by simp
  have i1 := hi.keeps k
  have b1 := (hb (.ref (h.objs.size + 1))).keeps k
  unfold isInstance
  repeat (first
    | with_reducible refine wpAny_loadPart_at ha ?_
    | (with_reducible refine wpAny_isSubtype_exc hD ?_; rw [inC])
    | wp_step)
  show wpAny _ _ (typeLookup (.ref C) _) _ _ _
  refine i1.at ?_
  refine wpAny_holding (wpAny_bind (b1.at ?_))
  refine wpAny_bind (wpAny_call (codeAny_mono hq fun r s' z => ?_))
  cases r with
  | error e => exact z
  | ok fl =>
    cases fl with
    | ret v =>
      obtain ⟨rfl, z⟩ := z
      first
        | exact wpAny_pure (wpAny_pure z)
        | (wp_walk; exact z)
    | next => exact z.elim
    | brk => exact z.elim
    | cont => exact z.elim
theorem callK (F : ExcBaseFacts B newId initId bmB) (hT : ∀ X : String, bm.contains (.type X) = bmB.contains (.type X)) {fI : Addr}
    (hC : Ecls nm q C N bs bm hdct sn sub ab col dd k0 k1 k2 k3 k5 newId h)
    (hi : W.Looks (model prog w) h (typeLookup (.ref C) "__init__") (some (.ref fI))) (hb : ∀ self, W.Looks (model prog w) h (bindSpecial (.ref fI) self) (.ref fI, [self]))
    (hq : codeAny (model prog w) (A.under (.builtin "type.__call__" ⟨[.ref C], kw⟩)) (.call (.ref fI) ⟨[.ref (h.objs.size + 1)], kw⟩)
      (W.InitBack (h.objs.size + 1) R) ⟨(h.push (W.kdv_tup [])).push (excO C h.objs.size), g, d, t, os⟩) :
    codeAny (model prog w) A (.call (.ref C) ⟨[], kw⟩) R ⟨h, g, d, t, os⟩ := by
  have f1 := tc_lookup
  have f2 := tc_bind (.ref C)
  have hC' : h.get? C = some (excClassObj nm q C N bs bm hdct sn sub ab col dd k0 k1 k2 k3 k5 newId) := hC
  have ty : (⟨h, g, d, t, os⟩ : Shared).TypeIs (.ref C) "type" := ⟨_, hC, rfl⟩
  refine codeAny_of_tree ?_
  show wpAny _ _ (callAny (.ref C) _) _ _ _
  repeat (any_goals (first
    | assumption
    | with_reducible refine wpAny_loadPart_at hC' ?_
    | wp_step))
  refine ⟨rfl, ?_⟩
  refine codeAny_call_builtin_at (Code.quiet_builtin _ (by decide +kernel)) entry_typeCall
    (wpAny_check_type_call_sub hC (typeK F hT hC hi hb ?_))
  refine codeAny_mono hq fun r s' z => ?_
  cases r with
  | error e => exact z
  | ok fl => cases fl <;> exact z
end
end Kx

set_option maxHeartbeats 4000000
/-! Errors of own classes as values: made, their fields read, asked for their classes. -/
namespace Tp
open PySem PySem.Spec PyProof.Rows L2

/-- what the written part says of an own error class with an __init__(self, f): self.f = f -/
structure XCls (K : PySem.W.Frag) (C fI : Addr) (f : Str) : Prop where
  oex : OexC K C
  iC : PySem.W.findIn K (.ref C) "__init__" = some (some (.ref fI))
  tI : PySem.W.typeIn K (.ref fI) = some (.type "function")
  noF : PySem.W.findIn K (.ref C) f = some none
/-- what it says of any own error class, for isinstance and for reading fields -/
structure XIs (K : PySem.W.Frag) (C : Addr) : Prop where
  ga : PySem.W.findIn K (.ref C) "__getattribute__" = some (some (.builtin "BaseException.__getattribute__"))
  gg : PySem.W.findIn K (.ref C) "__getattr__" = some none
  ex : PySem.W.subIn K (.ref C) (.type "BaseException") = some true
  hd : PySem.W.hasDictIn K C = true
  ha : PySem.W.findIn K (.ref C) "__class__" = some (some (.builtin "object.__class__"))
  hm : PySem.W.mroIn K C (.type "object") = some true
/-- .. and of object's __class__ -/
structure XObj (K : PySem.W.Frag) : Prop where
  hn : PySem.W.specialIn K (.builtin "object.__class__") "__get__" = some (some (.builtin "getset_descriptor.__get__"))
  tk : PySem.W.takesIn K (.builtin "object.__class__") = some true
/-- at a stands an error of the class at C that holds v under f -/
def ErrF (H : Hp) (a C : Addr) (f : Str) (v : V) : Prop := ∃ dx, H a = some (exo a C (some dx)) ∧ H dx = some (exd dx [(f, v)])
/-- at a stands an error of the class at C -/
def ErrAt (H : Hp) (a C : Addr) : Prop := (∃ f v, ErrF H a C f v) ∨ H a = some (ExO (.ref C) a)

/-- what __init__ promises -/
def spInit (C : Addr) (f : Str) : Sp := fun vs H Q _ => ∃ (a : Addr) (v : V), vs = [.ref a, v] ∧ H a = some (exo a C none) ∧
  ∀ dx, H dx = none → dx ≠ a → Q .non (upd (upd H dx (exd dx [(f, v)])) a (exo a C (some dx)))
/-- an error of one value made -/
def rMade (C : Addr) (f : Str) (v : V) (H : Hp) (Q : VK) : Prop := ∀ a dx, H a = none → H dx = none → dx ≠ a → Q (.ref a) (upd (upd H dx (exd dx [(f, v)])) a (exo a C (some dx)))
section
variable {X : Cx} {pins : List (Addr × Obj)} {σ : L2.St} {H : Hp} {s : Shared} {Q : VK} {C fI : Addr} {f : Str} {k : Nat} {fd : FuncData} {ps : List Str} {v : V} {u : Value}
theorem made_end {H1 : Hp} {a : Addr} (h : rMade C f v H1 Q) (n : H1 a = none) : spInit C f [.ref a, v] (upd H1 a (exo a C none)) (fun z H2 => z = .non ∧ Q (.ref a) H2) E0 := by
  refine ⟨a, v, rfl, upd_same, fun dx nd ne => ⟨rfl, ?_⟩⟩
  have nd' : H1 dx = none := by
    rw [upd_ne ne] at nd
    exact nd
  have e : upd (upd (upd H1 a (exo a C none)) dx (exd dx [(f, v)])) a (exo a C (some dx)) = upd (upd H1 dx (exd dx [(f, v)])) a (exo a C (some dx)) := by
    funext b
    by_cases hb : b = a
    · rw [hb, upd_same, upd_same]
    · rw [upd_ne hb, upd_ne hb]
      by_cases hd : b = dx
      · rw [hd, upd_same, upd_same]
      · rw [upd_ne hd, upd_ne hd, upd_ne hb]
  rw [e]
  exact h a dx n nd' ne
/-- both ways of calling: us and kw as the callee binds them -/
theorem run_err {us : List Value} {kw : List (Str × Value)} (T : XCls X.K C fI f) (F : FnOk X.prog X.w X.K X.mg X.base CX0 k fI fd ps (spInit C f)) (hr : Room (k + 1) X.A)
    (hsh : us = [u] ∧ kw = [] ∨ us = []) (hb : ∀ (s : Shared) (z : Value), X.K.In s.heap → BindsTo s fd ⟨z :: us, kw⟩ (ps.zip [z, u]))
    (I : Inv X pins σ H s) (r : RelV v u) (h : rMade C f v H Q) : wpAny (model X.prog X.w) X.A (call (.ref C) us kw) (EP X pins σ Q) X.xe s := by
  obtain ⟨nm, q, N, bs, bm, sn, sub, ab, col, dd, k0, k1, k2, k3, k5, hC, hbm⟩ := T.oex.cls
  obtain ⟨hp, g, dr, tk, os⟩ := s
  have big : hp.objs.size ≤ hp.objs.size + 1 := Nat.le_succ _
  have n0 : H (hp.objs.size + 1) = none := I.hok.fresh big
  have hq := made_end h n0
  have kk : ∀ b o, hp.get? b = some o → ((hp.push (PySem.W.kdv_tup us)).push (PySem.HandSPX.excO C hp.objs.size)).get? b = some o :=
    fun b o e => Heap.get?_push_of_some _ (Heap.get?_push_of_some _ e)
  have hget : ((hp.push (PySem.W.kdv_tup us)).push (PySem.HandSPX.excO C hp.objs.size)).get? (hp.objs.size + 1) = some (PySem.HandSPX.excO C hp.objs.size) := by heap_get
  have I2 : Inv X pins σ (upd H (hp.objs.size + 1) (exo (hp.objs.size + 1) C none)) ⟨(hp.push (PySem.W.kdv_tup us)).push (PySem.HandSPX.excO C hp.objs.size), g, dr, tk, os⟩ :=
    I.laid (t' := tk) (a := hp.objs.size + 1) (o := exo (hp.objs.size + 1) C none) (h' := (hp.push (PySem.W.kdv_tup us)).push (PySem.HandSPX.excO C hp.objs.size)) kk big (exo_ok hget)
  have r2 : Vals [V.ref (hp.objs.size + 1), v] [Value.ref (hp.objs.size + 1), u] := .cons rfl (.cons r .nil)
  have run := F.run (X.A.under (.builtin "type.__call__" ⟨.ref C :: us, kw⟩)) X.stack _ _ ⟨Value.ref (hp.objs.size + 1) :: us, kw⟩ [Value.ref (hp.objs.size + 1), u] _ _ E0 (hr.make C us kw)
    (I2.env0.make C us kw) (hb _ _ I2.kIn) r2 hq
  have fin : ∀ r s', CR CX0 X.stack X.prog X.w (upd H (hp.objs.size + 1) (exo (hp.objs.size + 1) C none)) ⟨(hp.push (PySem.W.kdv_tup us)).push (PySem.HandSPX.excO C hp.objs.size), g, dr, tk, os⟩
      (fun z H2 => z = .non ∧ Q (.ref (hp.objs.size + 1)) H2) E0 r s' → PySem.W.InitBack (hp.objs.size + 1) (fun r s' => match r with
        | .ok (.ret a) => EP X pins σ Q a s'
        | .ok _ => False
        | .error e => X.xe e s') r s' := by
    intro r s' z
    cases r with
    | error e => exact z.elim
    | ok fl =>
      cases fl with
      | ret u' =>
        obtain ⟨z0, H3, os3, bare3, un3, hok3, rz, ez, q3⟩ := z
        subst ez
        exact ⟨rz, ⟨V.ref (hp.objs.size + 1), H3, I2.call' (ch := []) os3 un3 hok3 bare3 (fun b z => absurd z (by simp)), rfl, q3⟩⟩
      | next => exact z.elim
      | brk => exact z.elim
      | cont => exact z.elim
  have one : us.length ≤ sizeLine := by
    rcases hsh with ⟨rfl, _⟩ | rfl
    · show 1 ≤ sizeLine
      decide
    · exact Nat.zero_le _
  refine wpAny_call ?_
  rcases hsh with ⟨rfl, rfl⟩ | rfl
  · exact PySem.HandSPX.call_own PySem.F.excBase_ValueError (fun Y => PySem.HandSPX.refsVE_contains Y bm hbm) (I.kIn _ _ hC) (PySem.W.looks_findIn I.kIn T.iC)
      (fun self => PySem.W.bind_fn I.kIn self T.tI) one (codeAny_mono run fin)
  · exact Kx.callK PySem.F.excBase_ValueError (fun Y => PySem.HandSPX.refsVE_contains Y bm hbm) (I.kIn _ _ hC) (PySem.W.looks_findIn I.kIn T.iC)
      (fun self => PySem.W.bind_fn I.kIn self T.tI) (codeAny_mono run fin)
end
end Tp

set_option maxHeartbeats 4000000
namespace Tp
open PySem PySem.Spec PyProof.Rows L2
/-- C(e), C(f=e) -/
def tErr (C : Addr) (f : Str) (ta : TA) : TE := fun σ H Q => ta σ H fun vs H1 => ∃ v, vs = [v] ∧ rMade C f v H1 Q
/-- C(), C without an __init__ of its own -/
def tErr0 (C : Addr) : TE := fun _ H Q => ∀ a, H a = none → Q (.ref a) (upd H a (ExO (.ref C) a))
def tXfld (K : PySem.W.Frag) (f : Str) (te : TE) : TE := fun σ H Q => te σ H fun x H1 => ∃ a C v, x = .ref a ∧ XIs K C ∧ PySem.W.findIn K (.ref C) f = some none ∧ ErrF H1 a C f v ∧ Q v H1
/-- isinstance(error, class) -/
def rIsX (K : PySem.W.Frag) : List V → Hp → VK → Prop := fun xs H Q => ∃ (a C : Addr) (c : V) (u : Value) (b : Bool), xs = [.ref a, c] ∧ XIs K C ∧ ErrAt H a C ∧ ClsV c u ∧ PySem.W.kitOne K (.ref C) u = some b ∧ Q (.bl b) H
section
variable {X : Cx} {C fI : Addr} {f n x : Str} {k : Nat} {fd : FuncData} {ps : List Str} {p pos kp : Pos} {e : Expr} {te : TE} {ta : TA}
theorem pe_err1 (T : XCls X.K C fI f) (F : FnOk X.prog X.w X.K X.mg X.base CX0 k fI fd ps (spInit C f)) (hr : Room (k + 1) X.A) (hb : Binds X.K fd ps []) (hl : ps.length = 2) (hg : Gl X x) (hm : X.mg x = some (.ref C)) (ha : PA X [e] ta)
    (hdb : (x == ("__debug__" : Str)) = false := by decide) (hs : starEach [e] X.env = (false, eval e X.env) :: starEach [] X.env := by rfl) (hpl : (backTo pos (starEach [] X.env)).any (·.1) = false := by rfl) :
    PE X (.Call (.Name x p) [e] [] pos) (tErr C f ta) := by
  refine ⟨fun pins s σ H Q I h => ?_⟩
  refine wpAny_Call_Name_kw (ld_glob I hg hm ?_ hdb)
  refine PySem.W.callWith_K (h₀ := X.base) I.ok.mod.kin T.oex.kC (thn (ha.run pos pins s σ H _ I h) fun us s1 ⟨vs, H1, I1, r1, v, ev, q1⟩ => ⟨I1.kIn, ?_⟩) hs hpl
  subst ev
  obtain ⟨u, rfl, rv⟩ : ∃ u, us = [u] ∧ RelV v u := by
    cases r1 with
    | cons rv rn =>
      cases rn
      exact ⟨_, rfl, rv⟩
  exact run_err T F hr (.inl ⟨rfl, rfl⟩) (fun s z X' => by
    have q := hb s [z, u] X' (by show 2 = ps.length; rw [hl])
    exact q) I1 rv q1
theorem pe_errK (T : XCls X.K C fI f) (F : FnOk X.prog X.w X.K X.mg X.base CX0 k fI fd ps (spInit C f)) (hr : Room (k + 1) X.A) (hb : ∀ (s : Shared) (z u : Value), X.K.In s.heap → BindsTo s fd ⟨[z], [(n, u)]⟩ (ps.zip [z, u])) (hg : Gl X x) (hm : X.mg x = some (.ref C))
    (hk : PK X [⟨some n, e, kp⟩] ta) (hall : (backToKw pos (keywordEach [⟨some n, e, kp⟩] X.env)).all (·.1.isSome) = true := by rfl) (hks : (backToKw pos (keywordEach [⟨some n, e, kp⟩] X.env)).filterMap (·.1) = [n] := by rfl) (hdb : (x == ("__debug__" : Str)) = false := by decide)
    (hpl : ((backTo pos (starEach [] X.env)).any (·.1) || (backToKw pos (keywordEach [⟨some n, e, kp⟩] X.env)).any (·.1.isNone)) = false := by rfl) :
    PE X (.Call (.Name x p) [] [⟨some n, e, kp⟩] pos) (tErr C f ta) := by
  refine ⟨fun pins s σ H Q I h => ?_⟩
  refine wpAny_Call_Name_kw (ld_glob I hg hm ?_ hdb)
  refine PySem.W.callWith_KW0 (h₀ := X.base) I.ok.mod.kin T.oex.kC hall (thn (hk.run pos pins s σ H _ I h) fun us s1 ⟨vs, H1, I1, r1, v, ev, q1⟩ => ⟨I1.kIn, ?_⟩) hpl
  subst ev
  obtain ⟨u, rfl, rv⟩ : ∃ u, us = [u] ∧ RelV v u := by
    cases r1 with
    | cons rv rn =>
      cases rn
      exact ⟨_, rfl, rv⟩
  rw [hks]
  exact run_err (us := []) (kw := [(n, u)]) T F hr (.inr rfl) (fun s z X' => hb s z u X') I1 rv q1
theorem pe_err0 {bmB : List Value} {B newId initId : String} (F : ExcBaseFacts B newId initId bmB) (q : PySem.W.excIn X.K C bmB newId = true) (hg : Gl X x) (gC : X.mg x = some (.ref C)) (kC : PySem.W.keepIn X.K (.ref C) = true)
    (hdb : (x == ("__debug__" : Str)) = false := by decide) : PE X (.Call (.Name x p) [] [] pos) (tErr0 C) := by
  refine ⟨fun pins s σ H Q I h => ?_⟩
  refine wpAny_Call_Name_kw (ld_glob I hg gC ?_ hdb)
  refine PySem.W.callWith_K0 I.kIn kC ?_
  show wpAny _ _ (call (.ref C) []) _ _ _
  obtain ⟨bm, N, nm, qn, bs, hdct, sn, sub, ab, col, dd, k0, k1, k2, k3, k5, mN, hC, hN, hni, T⟩ := exc_obj I.kIn q
  refine wpAny_call_exc_subT F T hC hN hni (fun h' a hm => ?_) (Nat.zero_le _)
  have hn : H a = none := I.hok.gone hm.new
  obtain ⟨t, ht, _, _⟩ := hm.there
  exact ⟨.ref a, upd H a (ExO (.ref C) a), I.laidN hm.keeps hm.new hn (exO_ok ht ⟨rfl, rfl⟩ rfl rfl rfl (show 4 < 6 by decide)), rfl, h a hn⟩
/-- error.f -/
theorem pe_xfld (he : PE X e te) (hb : attributeBase e f X.env (eval e X.env) = eval e X.env := by rfl) :
    PE X (.Attribute e f pos) (tXfld X.K f te) := by
  refine ⟨fun pins s σ H Q I h => ?_⟩
  refine attr_of hb (thn (he.run pins s σ H _ I h) fun u s1 hh => ?_)
  obtain ⟨x, H1, I1, rx, a, C, v, ex, T, hno, ⟨dd, ea, ed⟩, q⟩ := hh
  subst ex
  obtain rfl : u = Value.ref a := rx
  obtain ⟨t1, ho⟩ := exo_at I1.hok ea
  obtain ⟨mA, hns, hr⟩ := exd_at I1.hok ed
  obtain ⟨od, hod, hl⟩ := lookIn_ns hns
  have l : List.lookup f [(f, v)] = some v := by simp [List.lookup]
  obtain ⟨u, hu, ru⟩ := RelO.some_of (v := v) (o := mA f) (by rw [← l]; exact hr f)
  have J : PySem.W.InstAt s1.heap a _ C (some od) := ⟨ho, rfl, rfl, hod⟩
  exact HandSPX.exc_get I1.kIn J T.ga T.gg T.ex (PySem.W.findObj_own T.hd hno rfl (by rw [hl, hu])) (handed_of ru) ⟨v, H1, I1.tok _, ru, q⟩
theorem call_isX (O : XObj X.K) : CallR X (.builtin "isinstance") (rIsX X.K) := by
  intro pins s σ H xs us Q I r h
  obtain ⟨a, C, c, u, b, rfl, T, E, k, e, q⟩ := h
  obtain ⟨u1, u2, rfl, r1, r2⟩ := vals2 r
  have e2 := k.eq r2
  subst e2
  obtain rfl : u1 = Value.ref a := r1
  have hcl : (PySem.W.clsIn X.K C).isSome = true := by
    obtain ⟨cd, hc, _⟩ := PySem.W.any_some T.hd
    rw [hc]
    rfl
  obtain ⟨ox, od, J⟩ : ∃ ox od, PySem.W.InstAt s.heap a ox C od := by
    rcases E with ⟨f, v, dx, ea, ed⟩ | ea
    · obtain ⟨t1, ho⟩ := exo_at I.hok ea
      obtain ⟨mA, hns, _⟩ := exd_at I.hok ed
      obtain ⟨od, hod, _⟩ := lookIn_ns hns
      exact ⟨_, some od, ho, rfl, rfl, hod⟩
    · obtain ⟨⟨oe, vs, ho, hz, hd, _⟩, _, _⟩ := I.hok a _ ea
      exact ⟨oe, none, ho, hz.1, by unfold PySem.W.notCls; rw [hd] <;> rfl, by rw [hz.2]; trivial⟩
  exact PySem.W.kia_one (PySem.W.kitx_exc hcl T.ga T.gg T.ex T.ha O.hn O.tk T.hm) I.kIn J e (fun z => nomatch z) fun tk => ⟨.bl b, H, I.kept (t' := tk) fun _ _ z => z, rfl, q⟩
end
end Tp

set_option maxHeartbeats 4000000
/-! Readings that only add to the heap: what they come to, said by a word that stays true. -/
namespace Tp
open PySem PySem.Spec PyProof.Rows L2
abbrev Ex := Evl.Ex
theorem Ex.refl (H : Hp) : Ex H H := Evl.Ex.refl H
theorem Ex.new {H : Hp} {p : Addr} {o : HO} (h : H p = none) : Ex H (upd H p o) := Evl.Ex.new h
theorem ex_tr {H H1 H2 : Hp} (a : Ex H H1) (b : Ex H1 H2) : Ex H H2 := Evl.Ex.trans a b
theorem back {H H' : Hp} {p : Addr} (e : Ex H H') (h : H' p = none) : H p = none := Evl.fresh_back e h
abbrev VP := V → Hp → Prop
/-- a word that stays true while the heap grows -/
def Grows (P : VP) : Prop := ∀ v H H', Ex H H' → P v H → P v H'
def EvM (te : TE) (σ : L2.St) (H : Hp) (P : VP) : Prop := ∀ H1, Ex H H1 → ∀ Q : VK, (∀ v H2, Ex H1 H2 → P v H2 → Q v H2) → te σ H1 Q
/-- item by item -/
inductive AllP (H : Hp) : List VP → List V → Prop
  | nil : AllP H [] []
  | cons {P : VP} {Ps : List VP} {v : V} {vs : List V} : P v H → AllP H Ps vs → AllP H (P :: Ps) (v :: vs)
def GrowsAll (Ps : List VP) : Prop := ∀ P ∈ Ps, Grows P
def EvMs (ta : TA) (σ : L2.St) (H : Hp) (Ps : List VP) : Prop := ∀ H1, Ex H H1 → ∀ Q : List V → Hp → Prop, (∀ vs H2, Ex H1 H2 → AllP H2 Ps vs → Q vs H2) → ta σ H1 Q
theorem AllP.grow {H H' : Hp} (e : Ex H H') : ∀ {Ps : List VP} {vs : List V}, GrowsAll Ps → AllP H Ps vs → AllP H' Ps vs
  | _, _, _, .nil => .nil
  | _, _, g, .cons h t => .cons (g _ List.mem_cons_self _ _ _ e h) (AllP.grow e (fun P hP => g P (List.mem_cons_of_mem _ hP)) t)
theorem AllP.len {H : Hp} : ∀ {Ps : List VP} {vs : List V}, AllP H Ps vs → vs.length = Ps.length
  | _, _, .nil => rfl
  | _, _, .cons _ t => congrArg Nat.succ t.len
theorem AllP.app {H : Hp} : ∀ {Ps Qs : List VP} {vs us : List V}, AllP H Ps vs → AllP H Qs us → AllP H (Ps ++ Qs) (vs ++ us)
  | _, _, _, _, .nil, b => b
  | _, _, _, _, .cons h t, b => .cons h (t.app b)
theorem AllP.get {H : Hp} : ∀ {Ps : List VP} {vs : List V} {i : Nat} {v : V}, AllP H Ps vs → vs[i]? = some v → ∃ P, Ps[i]? = some P ∧ P v H
  | _, _, _, _, .nil, e => by simp at e
  | _, _, 0, _, .cons h _, e => by
    simp at e
    subst e
    exact ⟨_, rfl, h⟩
  | _, _, i + 1, v, .cons _ t, e => by
    obtain ⟨P, h1, h2⟩ := AllP.get (i := i) (v := v) t (by simpa using e)
    exact ⟨P, by simpa using h1, h2⟩
theorem GrowsAll.app {Ps Qs : List VP} (a : GrowsAll Ps) (b : GrowsAll Qs) : GrowsAll (Ps ++ Qs) := fun P h => (List.mem_append.mp h).elim (a P) (b P)
theorem GrowsAll.nil : GrowsAll [] := fun _ h => nomatch h
theorem GrowsAll.cons {P : VP} {Ps : List VP} (a : Grows P) (b : GrowsAll Ps) : GrowsAll (P :: Ps) := fun Q h => by
  rcases List.mem_cons.mp h with rfl | h
  · exact a
  · exact b Q h
theorem GrowsAll.map {α : Type} {f : α → VP} (h : ∀ a, Grows (f a)) (l : List α) : GrowsAll (l.map f) := fun P hP => by
  obtain ⟨a, _, rfl⟩ := List.mem_map.mp hP
  exact h a

section
variable {σ : L2.St} {H : Hp} {P P' : VP} {Ps Qs : List VP} {te ta tb : TE} {tr : TA} {v : V}
theorem em_c (h : ∀ H', Ex H H' → P v H') : EvM (tC v) σ H P := fun H1 e Q q => q v H1 (Ex.refl H1) (h H1 e)
theorem em_var {i : Nat} (hi : σ[i]? = some (some v)) (h : ∀ H', Ex H H' → P v H') : EvM (tVar i) σ H P := fun H1 e Q q => ⟨v, hi, q v H1 (Ex.refl H1) (h H1 e)⟩
theorem em_imp (h : EvM te σ H P) (k : ∀ v H', Ex H H' → P v H' → P' v H') : EvM te σ H P' := fun H1 e Q q => h H1 e Q fun v H2 e2 p => q v H2 e2 (k v H2 (ex_tr e e2) p)
theorem em_mono {H' : Hp} (h : EvM te σ H P) (e : Ex H H') : EvM te σ H' P := fun H1 e1 Q q => h H1 (ex_tr e e1) Q q
theorem ems_nil : EvMs tNil σ H [] := fun H1 _ Q q => q [] H1 (Ex.refl H1) .nil
theorem ems_cons (g : Grows P) (h : EvM te σ H P) (t : EvMs tr σ H Ps) : EvMs (tCons te tr) σ H (P :: Ps) := fun H1 e Q q =>
  h H1 e _ fun v H2 e2 p => t H2 (ex_tr e e2) _ fun vs H3 e3 ps => q (v :: vs) H3 (ex_tr e2 e3) (.cons (g _ _ _ e3 p) ps)
theorem em_tup (g : GrowsAll Ps) (h : EvMs tr σ H Ps) (hl : Ps.length ≤ 1000) (k : ∀ p vs H', Ex H H' → AllP H' Ps vs → H' p = some (.tup vs) → H p = none → P (.ref p) H') : EvM (tTup tr) σ H P := fun H1 e Q q =>
  h H1 e _ fun vs H2 e2 ps => ⟨by rw [ps.len]; exact Nat.le_trans hl (by decide), fun p hp => q _ _ (ex_tr e2 (Ex.new hp)) (k p vs _ (ex_tr (ex_tr e e2) (Ex.new hp)) (ps.grow (Ex.new hp) g) upd_same (back (ex_tr e e2) hp))⟩
theorem em_lst (g : GrowsAll Ps) (h : EvMs tr σ H Ps) (hl : Ps.length ≤ 1000) (k : ∀ p vs H', Ex H H' → AllP H' Ps vs → H' p = some (.lst vs) → H p = none → P (.ref p) H') : EvM (tLst tr) σ H P := fun H1 e Q q =>
  h H1 e _ fun vs H2 e2 ps => ⟨by rw [ps.len]; exact Nat.le_trans hl (by decide), fun p hp => q _ _ (ex_tr e2 (Ex.new hp)) (k p vs _ (ex_tr (ex_tr e e2) (Ex.new hp)) (ps.grow (Ex.new hp) g) upd_same (back (ex_tr e e2) hp))⟩
theorem em_i0 {f : Int → Int → V} {i j : Int} (ha : EvM ta σ H fun v _ => v = .int i) (hb : EvM tb σ H fun v _ => v = .int j) (h : ∀ H', Ex H H' → P (f i j) H') : EvM (tOp (rI0 f) ta tb) σ H P := fun H1 e Q q =>
  ha H1 e _ fun v H2 e2 ev => hb H2 (ex_tr e e2) _ fun u H3 e3 eu => ⟨i, j, ev, eu, q _ H3 (ex_tr e2 e3) (h H3 (ex_tr (ex_tr e e2) e3))⟩
theorem em_i {C : Int → Int → Prop} {f : Int → Int → V} {i j : Int} (hc : C i j) (ha : EvM ta σ H fun v _ => v = .int i) (hb : EvM tb σ H fun v _ => v = .int j) (h : ∀ H', Ex H H' → P (f i j) H') : EvM (tOp (rI C f) ta tb) σ H P := fun H1 e Q q =>
  ha H1 e _ fun v H2 e2 ev => hb H2 (ex_tr e e2) _ fun u H3 e3 eu => ⟨i, j, ev, eu, hc, q _ H3 (ex_tr e2 e3) (h H3 (ex_tr (ex_tr e e2) e3))⟩
theorem em_ci {i : Int} : EvM (c i) σ H fun v _ => v = .int i := em_c fun _ _ => rfl

/-- a list whose items are as told -/
def PL (Ps : List VP) : VP := fun v H => ∃ p xs, v = .ref p ∧ H p = some (.lst xs) ∧ AllP H Ps xs
theorem grows_PL (g : GrowsAll Ps) : Grows (PL Ps) := fun v H H' e ⟨p, xs, ev, hp, ha⟩ => ⟨p, xs, ev, e p _ hp, ha.grow e g⟩
theorem em_PL (g : GrowsAll Ps) (h : EvMs tr σ H Ps) (hl : Ps.length ≤ 1000) : EvM (tLst tr) σ H (PL Ps) := em_lst g h hl fun p vs H' _ a hp _ => ⟨p, vs, rfl, hp, a⟩
theorem em_cat (g : GrowsAll Ps) (g' : GrowsAll Qs) (ha : EvM ta σ H (PL Ps)) (hb : EvM tb σ H (PL Qs)) (hl : Ps.length + Qs.length ≤ 1000) : EvM (tOp rCat ta tb) σ H (PL (Ps ++ Qs)) := fun H1 e Q q =>
  ha H1 e _ fun v H2 e2 ⟨p, xs, ev, hp, hx⟩ => hb H2 (ex_tr e e2) _ fun u H3 e3 ⟨r, ys, eu, hr, hy⟩ =>
    ⟨p, r, xs, ys, ev, eu, e3 p _ hp, hr, by rw [hx.len, hy.len]; exact Nat.le_trans hl (by decide), fun z hz => by
      have n := Ex.new (o := .lst (xs ++ ys)) hz
      exact q _ _ (ex_tr (ex_tr e2 e3) n) ⟨z, _, rfl, upd_same, ((hx.grow e3 g).app hy).grow n (g.app g')⟩⟩
end

/-! ### data -/
section
variable {K : PySem.W.Frag} {H H' : Hp}
mutual
theorem dp_grow (e : Ex H H') : ∀ (d : PyData) (v : V), Dp K H v d → Dp K H' v d
  | .none, _, h => by cases h; exact .non
  | .bool b, _, h => by cases h; exact .bl b
  | .int i, _, h => by cases h; exact .int i
  | .str x, _, h => by cases h; exact .str x
  | .list ds, _, h => by
    cases h with
    | lst hs ha => exact .lst (Evl.ex_l e hs) (dpAll_grow e ds _ ha)
  | .tuple ds, _, h => by
    cases h with
    | tup hs ha => exact .tup (Evl.ex_t e hs) (dpAll_grow e ds _ ha)
  | .dict _, _, h => by cases h
theorem dpAll_grow (e : Ex H H') : ∀ (ds : List PyData) (vs : List V), DpAll K H vs ds → DpAll K H' vs ds
  | [], _, h => by cases h; exact .nil
  | d :: ds, _, h => by
    cases h with
    | cons h1 h2 => exact .cons (dp_grow e d _ h1) (dpAll_grow e ds _ h2)
end
theorem dat_grow (e : Ex H H') {v : V} {d : PyData} (h : Dat K H v d) : Dat K H' v d := by
  cases h with
  | dp h => exact .dp (dp_grow e d v h)
  | dk h => exact .dk (e _ _ h)
/-- data that isn't the object at t -/
def PD (K : PySem.W.Frag) (t : Addr) (d : PyData) : VP := fun v H => Dat K H v d ∧ v ≠ .ref t
/-- data without a dict -/
def PP (K : PySem.W.Frag) (d : PyData) : VP := fun v H => Dp K H v d
theorem grows_PD {t : Addr} {d : PyData} : Grows (PD K t d) := fun _ _ _ e h => ⟨dat_grow e h.1, h.2⟩
theorem grows_PP {d : PyData} : Grows (PP K d) := fun v _ _ e h => dp_grow e d v h
theorem allP_dpAll : ∀ {ds : List PyData} {vs : List V}, AllP H (ds.map (PP K)) vs → DpAll K H vs ds
  | [], _, h => by cases h; exact .nil
  | d :: ds, _, h => by
    cases h with
    | cons h1 h2 => exact .cons h1 (allP_dpAll h2)
variable {σ : L2.St} {t : Addr} {kv : HO}
theorem em_PPint {i : Int} : EvM (c i) σ H (PP K (.int i)) := em_c fun _ _ => .int i
theorem em_PPstr {x : Str} : EvM (s x) σ H (PP K (.str x)) := em_c fun _ _ => .str x
theorem em_PPbl {b : Bool} : EvM (tC (.bl b)) σ H (PP K (.bool b)) := em_c fun _ _ => .bl b
theorem em_PPnon : EvM (tC .non) σ H (PP K .none) := em_c fun _ _ => .non
theorem em_PPtup {ta : TA} {ds : List PyData} (h : EvMs ta σ H (ds.map (PP K))) (hl : ds.length ≤ 1000) : EvM (tTup ta) σ H (PP K (.tuple ds)) :=
  em_tup (GrowsAll.map (fun _ => grows_PP) ds) h (by rw [List.length_map]; exact hl) fun p vs H' _ a hp _ => .tup (Evl.st_of hp) (allP_dpAll a)
theorem em_PPlst {ta : TA} {ds : List PyData} (h : EvMs ta σ H (ds.map (PP K))) (hl : ds.length ≤ 1000) : EvM (tLst ta) σ H (PP K (.list ds)) :=
  em_lst (GrowsAll.map (fun _ => grows_PP) ds) h (by rw [List.length_map]; exact hl) fun p vs H' _ a hp _ => .lst (Evl.sq_of hp) (allP_dpAll a)
theorem em_PPi0 {f : Int → Int → Int} {ta tb : TE} {i j : Int} (ha : EvM ta σ H fun v _ => v = .int i) (hb : EvM tb σ H fun v _ => v = .int j) : EvM (tOp (rI0 fun i j => .int (f i j)) ta tb) σ H (PP K (.int (f i j))) :=
  em_i0 ha hb fun _ _ => .int _
theorem em_PDc {v : V} {d : PyData} (h : Dp K H v d) (hv : ∀ a, v ≠ .ref a) : EvM (tC v) σ H (PD K t d) := em_c fun H' e => ⟨.dp (dp_grow e d v h), hv t⟩
theorem em_PDi0 {f : Int → Int → Int} {ta tb : TE} {i j : Int} (ha : EvM ta σ H fun v _ => v = .int i) (hb : EvM tb σ H fun v _ => v = .int j) : EvM (tOp (rI0 fun i j => .int (f i j)) ta tb) σ H (PD K t (.int (f i j))) :=
  em_i0 ha hb fun _ _ => ⟨.dp (.int _), fun z => nomatch z⟩
theorem em_PDi {C : Int → Int → Prop} {f : Int → Int → Int} {ta tb : TE} {i j : Int} (hc : C i j) (ha : EvM ta σ H fun v _ => v = .int i) (hb : EvM tb σ H fun v _ => v = .int j) : EvM (tOp (rI C fun i j => .int (f i j)) ta tb) σ H (PD K t (.int (f i j))) :=
  em_i hc ha hb fun _ _ => ⟨.dp (.int _), fun z => nomatch z⟩
theorem ne_new {p : Addr} (ht : H t ≠ none) (hp : H p = none) : V.ref p ≠ V.ref t := fun z => ht (by cases z; exact hp)
theorem em_PDtup {ta : TA} {ds : List PyData} (ht : H t ≠ none) (h : EvMs ta σ H (ds.map (PP K))) (hl : ds.length ≤ 1000) : EvM (tTup ta) σ H (PD K t (.tuple ds)) :=
  em_tup (GrowsAll.map (fun _ => grows_PP) ds) h (by rw [List.length_map]; exact hl) fun p vs H' _ a hp hn => ⟨.dp (.tup (Evl.st_of hp) (allP_dpAll a)), ne_new ht hn⟩
theorem em_PDlst {ta : TA} {ds : List PyData} (ht : H t ≠ none) (h : EvMs ta σ H (ds.map (PP K))) (hl : ds.length ≤ 1000) : EvM (tLst ta) σ H (PD K t (.list ds)) :=
  em_lst (GrowsAll.map (fun _ => grows_PP) ds) h (by rw [List.length_map]; exact hl) fun p vs H' _ a hp hn => ⟨.dp (.lst (Evl.sq_of hp) (allP_dpAll a)), ne_new ht hn⟩
theorem em_PDnil (ht : H t ≠ none) : EvM tDNewK σ H (PD K t (.dict [])) := fun H1 e Q q p hp => q _ _ (Ex.new hp) ⟨.dk (kvs := []) upd_same, ne_new ht (back e hp)⟩
theorem em_PDone {k : Key} {i : Int} (ht : H t ≠ none) : EvM (tDisp [(tC (kV k), c i)]) σ H (PD K t (.dict [(keyD k, .int i)])) := fun H1 e Q q p hp =>
  ⟨upd_same, [(k, .int i)], rfl, (by show 1 ≤ 15; decide), by
    rw [upd_upd]
    exact q _ _ (Ex.new hp) ⟨.dk (kvs := [(k, i)]) upd_same, ne_new ht (back e hp)⟩⟩
/-- another thing at t leaves all data but it as they are -/
theorem sql_upd {a : Addr} {xs : List V} {kvs : List (Key × V)} {o : HO} (ht : H t = some (.dK kvs)) (h : SqL K H a xs) : SqL K (upd H t o) a xs := by
  rcases h with (h | ⟨u, h⟩) | h
  · exact .inl (.inl (by rw [upd_ne (ne_of h ht (by intro z; cases z))]; exact h))
  · exact .inl (.inr ⟨u, by rw [upd_ne (ne_of h ht (by intro z; cases z))]; exact h⟩)
  · exact .inr h
theorem sqt_upd {a : Addr} {xs : List V} {kvs : List (Key × V)} {o : HO} (ht : H t = some (.dK kvs)) (h : SqT K H a xs) : SqT K (upd H t o) a xs := by
  rcases h with (h | ⟨u, h⟩) | h
  · exact .inl (.inl (by rw [upd_ne (ne_of h ht (by intro z; cases z))]; exact h))
  · exact .inl (.inr ⟨u, by rw [upd_ne (ne_of h ht (by intro z; cases z))]; exact h⟩)
  · exact .inr h
mutual
theorem dp_upd {kvs : List (Key × V)} {o : HO} (ht : H t = some (.dK kvs)) : ∀ (d : PyData) (v : V), Dp K H v d → Dp K (upd H t o) v d
  | .none, _, h => by cases h; exact .non
  | .bool b, _, h => by cases h; exact .bl b
  | .int i, _, h => by cases h; exact .int i
  | .str x, _, h => by cases h; exact .str x
  | .list ds, _, h => by
    cases h with
    | lst hs ha => exact .lst (sql_upd ht hs) (dpAll_upd ht ds _ ha)
  | .tuple ds, _, h => by
    cases h with
    | tup hs ha => exact .tup (sqt_upd ht hs) (dpAll_upd ht ds _ ha)
  | .dict _, _, h => by cases h
theorem dpAll_upd {kvs : List (Key × V)} {o : HO} (ht : H t = some (.dK kvs)) : ∀ (ds : List PyData) (vs : List V), DpAll K H vs ds → DpAll K (upd H t o) vs ds
  | [], _, h => by cases h; exact .nil
  | d :: ds, _, h => by
    cases h with
    | cons h1 h2 => exact .cons (dp_upd ht d _ h1) (dpAll_upd ht ds _ h2)
end
theorem pd_upd {kvs : List (Key × V)} {o : HO} (ht : H t = some (.dK kvs)) {v : V} {d : PyData} (h : PD K t d v H) : PD K t d v (upd H t o) := by
  obtain ⟨h, n⟩ := h
  refine ⟨?_, n⟩
  cases h with
  | dp h => exact .dp (dp_upd ht d v h)
  | dk h => exact .dk (by rw [upd_ne (fun z => n (by rw [z]))]; exact h)
end

/-! ### any value -/
def dAny1 : List PyData := [.none, .bool true, .bool false, .int 0, .int 1, .int 2, .int 3, .int 4, .int 9, .int 10, .int (0 - 1), .int (10 ^ (39 : Int).toNat), .str "", .str "a", .str "0", .str "1*", .str "open", .str "none", .str "width 1"]
def dAny2 : List PyData := [.tuple [], .list [], .dict [], .tuple [.int 1], .list [.int 0], .dict [(.str "a", .int 1)], .tuple [.int 0, .int 0], .list [.tuple [.int 0, .int 0]], .tuple [.tuple [.int 0, .int 0]],
  .tuple [.int 0, .int 1], .tuple [.int 1, .bool false], .tuple [.tuple [.int 1, .bool false]], .list [.tuple [.tuple [.int 1, .bool true]]]]
def dAny3 : List PyData := [.tuple [.none], .tuple [.int 0, .bool true], .tuple [.int 0, .int 0, .int 0], .tuple [.str "step"], .tuple [.str "put", .tuple [.int 0, .int 0]], .dict [(.int 0, .int 0)], .list [.none], .tuple [.int 0, .int 1, .int 2], .tuple [.int 9, .bool false], .int 60]
def dAny : List PyData := (dAny1 ++ dAny2) ++ dAny3
abbrev bl (b : Bool) : TE := tC (.bl b)
abbrev non : TE := tC .non
def tas : List TE → TA
  | [] => tNil
  | t :: r => tCons t (tas r)
abbrev tt (l : List TE) : TE := tTup (tas l)
abbrev tl (l : List TE) : TE := tLst (tas l)
def iAny1 : List TE := [non, bl true, bl false, c 0, c 1, c 2, c 3, c 4, c 9, c 10, tOp rSub (c 0) (c 1), tOp rPow (c 10) (c 39), s "", s "a", s "0", s "1*", s "open", s "none", s "width 1"]
def iAny2 : List TE := [tt [], tl [], tDNewK, tt [c 1], tl [c 0], tDisp [(s "a", c 1)], tt [c 0, c 0], tl [tt [c 0, c 0]], tt [tt [c 0, c 0]], tt [c 0, c 1], tt [c 1, bl false], tt [tt [c 1, bl false]], tl [tt [tt [c 1, bl true]]]]
def iAny3 : List TE := [tt [non], tt [c 0, bl true], tt [c 0, c 0, c 0], tt [s "step"], tt [s "put", tt [c 0, c 0]], tDisp [(c 0, c 0)], tl [non], tt [c 0, c 1, c 2], tt [c 9, bl false], c 60]
abbrev NAny : List Str := ["tape", "some"]
def t_any (K : PySem.W.Frag) : TS :=
  tSeq (tAsg (tLst (tas iAny1)) (gName 1))
  (tSeq (tAsg (tOp rCat (tVar 1) (tLst (tas iAny2))) (gName 1))
  (tRet (tCall (spOne K) [] E0 (tCons (tVar 0) (tCons (tOp rCat (tVar 1) (tLst (tas iAny3))) tNil)))))
/-- all but the object at t stands as it stood -/
def ExB (t : Addr) (H H' : Hp) : Prop := ∀ a o, a ≠ t → H a = some o → H' a = some o
def spAny (K : PySem.W.Frag) : Sp := fun vs H Q _ => ∃ t : Addr, vs = [.ref t] ∧ Tape H t ∧ ∀ v d H', d ∈ dAny → Dat K H' v d → Tape H' t → ExB t H H' → Q v H'
end Tp

set_option maxHeartbeats 400000
namespace Tp
open PySem PySem.Spec PyProof.Rows L2
def fitsB (d : PyData) : Bool := d.showable && decide (d.shown.length ≤ 1000) && decide (d.depth ≤ 60) && PyData.strOk d.shown
theorem dAny_fits : dAny.all fitsB = true := by decide +kernel
theorem any_ok {d : PyData} (h : d ∈ dAny) : d.showable = true ∧ d.shown.length ≤ sizeLine ∧ d.depth ≤ 60 ∧ PyData.strOk d.shown = true := by
  have q := List.all_eq_true.mp dAny_fits d h
  unfold fitsB at q
  simp only [Bool.and_eq_true, decide_eq_true_eq] at q
  exact ⟨q.1.1.1, Nat.le_trans q.1.1.2 (by decide), q.1.2, q.2⟩
section
variable {K : PySem.W.Frag} {H : Hp} {σ : L2.St} {t : Addr}
theorem any1 (ht : H t ≠ none) : EvMs (tas iAny1) σ H (dAny1.map (PD K t)) := by
  have nr : ∀ {v : V}, (∀ a, v ≠ .ref a) → ∀ a, v ≠ .ref a := fun h => h
  refine ems_cons grows_PD (em_PDc .non fun _ z => nomatch z) ?_
  refine ems_cons grows_PD (em_PDc (.bl _) fun _ z => nomatch z) ?_
  refine ems_cons grows_PD (em_PDc (.bl _) fun _ z => nomatch z) ?_
  iterate 7 refine ems_cons grows_PD (em_PDc (.int _) fun _ z => nomatch z) ?_
  refine ems_cons grows_PD (em_PDi0 (f := fun i j => i - j) em_ci em_ci) ?_
  refine ems_cons grows_PD (em_PDi (f := fun i j => i ^ j.toNat) ⟨by decide, by decide, by decide⟩ em_ci em_ci) ?_
  iterate 7 refine ems_cons grows_PD (em_PDc (.str _) fun _ z => nomatch z) ?_
  exact ems_nil
theorem pp0 : EvMs (tas []) σ H (([] : List PyData).map (PP K)) := ems_nil
theorem pps {te : TE} {d : PyData} {l : List TE} {ds : List PyData} (h : EvM te σ H (PP K d)) (r : EvMs (tas l) σ H (ds.map (PP K))) : EvMs (tas (te :: l)) σ H ((d :: ds).map (PP K)) := ems_cons grows_PP h r
theorem any2 (ht : H t ≠ none) : EvMs (tas iAny2) σ H (dAny2.map (PD K t)) := by
  refine ems_cons grows_PD (em_PDtup ht pp0 (by decide)) ?_
  refine ems_cons grows_PD (em_PDlst ht pp0 (by decide)) ?_
  refine ems_cons grows_PD (em_PDnil ht) ?_
  refine ems_cons grows_PD (em_PDtup ht (pps em_PPint pp0) (by decide)) ?_
  refine ems_cons grows_PD (em_PDlst ht (pps em_PPint pp0) (by decide)) ?_
  refine ems_cons grows_PD (em_PDone (k := .inr "a") ht) ?_
  refine ems_cons grows_PD (em_PDtup ht (pps em_PPint (pps em_PPint pp0)) (by decide)) ?_
  refine ems_cons grows_PD (em_PDlst ht (pps (em_PPtup (pps em_PPint (pps em_PPint pp0)) (by decide)) pp0) (by decide)) ?_
  refine ems_cons grows_PD (em_PDtup ht (pps (em_PPtup (pps em_PPint (pps em_PPint pp0)) (by decide)) pp0) (by decide)) ?_
  refine ems_cons grows_PD (em_PDtup ht (pps em_PPint (pps em_PPint pp0)) (by decide)) ?_
  refine ems_cons grows_PD (em_PDtup ht (pps em_PPint (pps em_PPbl pp0)) (by decide)) ?_
  refine ems_cons grows_PD (em_PDtup ht (pps (em_PPtup (pps em_PPint (pps em_PPbl pp0)) (by decide)) pp0) (by decide)) ?_
  refine ems_cons grows_PD (em_PDlst ht (pps (em_PPtup (pps (em_PPtup (pps em_PPint (pps em_PPbl pp0)) (by decide)) pp0) (by decide)) pp0) (by decide)) ?_
  exact ems_nil
theorem any3 (ht : H t ≠ none) : EvMs (tas iAny3) σ H (dAny3.map (PD K t)) := by
  refine ems_cons grows_PD (em_PDtup ht (pps em_PPnon pp0) (by decide)) ?_
  refine ems_cons grows_PD (em_PDtup ht (pps em_PPint (pps em_PPbl pp0)) (by decide)) ?_
  refine ems_cons grows_PD (em_PDtup ht (pps em_PPint (pps em_PPint (pps em_PPint pp0))) (by decide)) ?_
  refine ems_cons grows_PD (em_PDtup ht (pps em_PPstr pp0) (by decide)) ?_
  refine ems_cons grows_PD (em_PDtup ht (pps em_PPstr (pps (em_PPtup (pps em_PPint (pps em_PPint pp0)) (by decide)) pp0)) (by decide)) ?_
  refine ems_cons grows_PD (em_PDone (k := .inl 0) ht) ?_
  refine ems_cons grows_PD (em_PDlst ht (pps em_PPnon pp0) (by decide)) ?_
  refine ems_cons grows_PD (em_PDtup ht (pps em_PPint (pps em_PPint (pps em_PPint pp0))) (by decide)) ?_
  refine ems_cons grows_PD (em_PDtup ht (pps em_PPint (pps em_PPbl pp0)) (by decide)) ?_
  refine ems_cons grows_PD (em_PDc (.int _) fun _ z => nomatch z) ?_
  exact ems_nil
theorem q_asg {te : TE} {tz : TS} {D : Ends} {P : VP} {i : Nat} (h : EvM te σ H P) (k : ∀ v H1, Ex H H1 → P v H1 → tz D (σ.set i (some v)) H1) : tSeq (tAsg te (gName i)) tz D σ H := h H (Ex.refl H) _ k
theorem q_ret {te : TE} {D : Ends} {P : VP} (h : EvM te σ H P) (k : ∀ v H1, Ex H H1 → P v H1 → D.rt v H1) : tRet te D σ H := h H (Ex.refl H) _ k
theorem len1 : (dAny1.map (PD K t)).length = 19 := by rw [List.length_map]; rfl
theorem len2 : (dAny2.map (PD K t)).length = 13 := by rw [List.length_map]; rfl
theorem len3 : (dAny3.map (PD K t)).length = 10 := by rw [List.length_map]; rfl
theorem any_call (D : Ends) {v2 : V} (hσ : σ[0]? = some (some (.ref t))) (hσ1 : σ[1]? = some (some v2)) {d0 m0 : Int} (hT : H t = some (.dK (tapeKv d0 m0))) (hR : Rng d0 m0) (p2 : PL (dAny1.map (PD K t) ++ dAny2.map (PD K t)) v2 H)
    (k : ∀ v d H', d ∈ dAny → Dat K H' v d → Tape H' t → ExB t H H' → D.rt v H') :
    tRet (tCall (spOne K) [] E0 (tCons (tVar 0) (tCons (tOp rCat (tVar 1) (tLst (tas iAny3))) tNil))) D σ H := by
  have ht : H t ≠ none := fun z => by rw [hT] at z; cases z
  have g : ∀ ds : List PyData, GrowsAll (ds.map (PD K t)) := GrowsAll.map fun _ => grows_PD
  have h3 := em_cat (σ := σ) (H := H) ((g dAny1).app (g dAny2)) (g dAny3) (em_var (i := 1) (v := v2) hσ1 fun H' e => grows_PL ((g _).app (g _)) _ _ _ e p2) (em_PL (g dAny3) (any3 ht) (by rw [len3]; decide)) (by rw [List.length_append, len1, len2, len3]; decide)
  refine ⟨_, hσ, h3 H (Ex.refl H) _ fun v3 H3 e3 p3 => ?_⟩
  obtain ⟨p, xs, rfl, hp, ha⟩ := p3
  have h3' := e3 t _ hT
  have hl : xs.length = 42 := by rw [ha.len, List.length_append, List.length_append, len1, len2, len3]
  refine ⟨t, p, xs, rfl, ⟨d0, m0, h3', hR⟩, SqL.of hp, ne_of hp h3' (by intro z; cases z), by omega, by rw [hl]; decide, fun i v H' hi dr => ?_⟩
  obtain ⟨P, hP, pv⟩ := ha.get hi
  have hP' : (dAny.map (PD K t))[i]? = some P := by
    rw [← hP]
    simp only [dAny, List.map_append]
  obtain ⟨d', m', rfl, hR'⟩ := dr
  rw [List.getElem?_map] at hP'
  obtain ⟨d, hd, rfl⟩ := Option.map_eq_some_iff.mp hP'
  refine k v d _ (List.mem_of_getElem? hd) (pd_upd h3' pv).1 ⟨d', m', upd_same, hR'⟩ fun a o na ha => ?_
  rw [upd_ne na]
  exact e3 a o ha
theorem pure_any (vs : List V) (H : Hp) (Q : VK) (E : XK) (h : spAny K vs H Q E) : t_any K { nx := fun _ H' => Q .non H', rt := Q } (start NAny vs) H := by
  obtain ⟨t, rfl, ⟨d0, m0, hT, hR⟩, k⟩ := h
  have ht : ∀ {H' : Hp}, Ex H H' → H' t ≠ none := fun e z => by
    rw [e t _ hT] at z
    cases z
  have g : ∀ ds : List PyData, GrowsAll (ds.map (PD K t)) := GrowsAll.map fun _ => grows_PD
  unfold t_any
  refine q_asg (P := PL (dAny1.map (PD K t))) (em_PL (g _) (any1 (ht (Ex.refl H))) (by rw [len1]; decide)) fun v1 H1 e1 p1 => ?_
  refine q_asg (P := PL (dAny1.map (PD K t) ++ dAny2.map (PD K t))) (em_cat (g _) (g _) (em_var (v := v1) rfl fun H' e => grows_PL (g _) _ _ _ e p1) (em_PL (g _) (any2 (ht e1)) (by rw [len2]; decide)) (by rw [len1, len2]; decide)) fun v2 H2 e2 p2 => ?_
  have e02 := ex_tr e1 e2
  refine any_call _ rfl rfl (e02 t _ hT) hR p2 fun v d H' hd hD hT' hE => k v d H' hd hD hT' fun a o na ha => hE a o na (e02 a o ha)
end
end Tp

set_option maxHeartbeats 400000
namespace Tp
open PySem PySem.Spec PyProof.Rows L2
section
variable {K : PySem.W.Frag} {σ : L2.St} {H : Hp} {te tl : TE} {g : TG} {vs : List Nat}
theorem ex_del {H : Hp} {D : Addr} : Ex (delH H D) H := fun a o h => by
  by_cases e : a = D
  · rw [e, delH_same] at h
    cases h
  · rw [delH_ne e] at h
    exact h
theorem ex_del2 {H H' : Hp} {D : Addr} (n : H D = none) (e : Ex H H') : Ex H (delH H' D) := fun a o h => by
  rw [delH_ne (ne_of_none h n)]
  exact e a o h
theorem del_upd {H : Hp} {D : Addr} {o : HO} : delH (upd H D o) D = delH H D := by
  funext b
  by_cases e : b = D
  · rw [e, delH_same, delH_same]
  · rw [delH_ne e, delH_ne e, upd_ne e]
theorem ex_dels {H H' : Hp} {D : Addr} (e : Ex H H') : Ex (delH H D) (delH H' D) := fun a o h => by
  by_cases q : a = D
  · rw [q, delH_same] at h
    cases h
  · rw [delH_ne q] at h ⊢
    exact e a o h
/-- the first items, one by one -/
theorem take_snoc {α : Type} {l : List α} {i : Nat} {x : α} (h : l[i]? = some x) : l.take (i + 1) = l.take i ++ [x] := by
  rw [List.take_add_one, h]
  rfl
/-- a comprehension over a list: each item's value by a word of its own -/
theorem em_lc {Ps Rs : List VP} {PO : VP} (gP : GrowsAll Ps) (gR : GrowsAll Rs) (hl : Rs.length = Ps.length) (hz : Ps.length ≤ 1000) (h : EvM tl σ H (PL Ps))
    (body : ∀ (D : Addr) (i : Nat) (P R : VP) (x : V) (H1 : Hp), H1 D ≠ none → Ex H (delH H1 D) → Ps[i]? = some P → Rs[i]? = some R → P x (delH H1 D) →
      ∃ σ2, (∀ Q : L2.St → Hp → Prop, Q σ2 H1 → g x (wipe σ vs) H1 Q) ∧ wipe σ2 vs = wipe σ vs ∧ EvM te σ2 H1 (fun v H' => R v (delH H' D)))
    (k : ∀ D ys H', H D = none → Ex H (delH H' D) → H' D = some (.lst ys) → AllP (delH H' D) Rs ys → PO (.ref D) H') : EvM (tLc (iList K tl) g tYes te vs) σ H PO := fun H1 e Q q =>
  h H1 e _ fun v H2 e2 ⟨p, xs, ev, hp, ha⟩ => ⟨p, ev, ⟨xs, SqL.of hp⟩, fun D hD => by
    have hlen := ha.len
    have e02 := ex_tr e e2
    refine lc_list (K := K) (a := p) (xs := xs) (fun i H' => ∃ ys, H' D = some (.lst ys) ∧ AllP (delH H' D) (Rs.take i) ys ∧ Ex H2 (delH H' D)) ⟨[], upd_same, by rw [List.take_zero]; exact .nil, fun a o ho => by rw [del_upd, delH_ne (ne_of_none ho hD)]; exact ho⟩
      (fun i H' _ ⟨_, _, _, e3⟩ => SqL.of (ex_del p _ (e3 p _ hp))) ?_ ?_
    · rintro i x H' hi ⟨ys, hy, hall, e3⟩
      have hix : i < xs.length := (List.getElem?_eq_some_iff.mp hi).1
      obtain ⟨P, hP, px⟩ := ha.get hi
      have hiR : i < Rs.length := by omega
      have hR : Rs[i]? = some Rs[i] := List.getElem?_eq_getElem hiR
      have gp : Grows P := gP P (List.mem_of_getElem? hP)
      obtain ⟨σ2, b1, b2, b3⟩ := body D i P Rs[i] x H' (fun z => by rw [hy] at z; cases z) (ex_tr e02 e3) hP hR (gp _ _ _ e3 px)
      refine b1 _ ⟨b2, ?_⟩
      simp only [tYes, ↓reduceIte]
      refine b3 H' (Ex.refl H') _ fun y H4 e4 ry => ⟨ys, e4 D _ hy, ?_, ys ++ [y], upd_same, ?_, ?_⟩
      · have z := hall.len
        rw [List.length_take] at z
        exact Nat.lt_of_le_of_lt (show ys.length ≤ 1000 by omega) (by decide)
      · rw [del_upd, take_snoc hR]
        exact (hall.grow (ex_dels e4) fun P hP => gR P (List.mem_of_mem_take hP)).app (.cons ry .nil)
      · rw [del_upd]
        exact ex_tr e3 (ex_dels e4)
    · rintro H' ⟨ys, hy, hall, e3⟩
      have e1 : xs.length = Rs.length := by omega
      rw [e1, List.take_length] at hall
      exact q _ H' (ex_tr e2 (ex_tr e3 ex_del)) (k D ys H' (back e02 hD) (ex_tr e02 e3) hy hall)⟩
/-- a comprehension over range(a), range(a, b), each item a value that is there without the heap -/
theorem em_lcR {wi : TI} {lo : Int} {n : Nat} {f : Nat → V} {j : Nat} (hn : n ≤ 1000) (hw : ∀ H1, Ex H H1 → ∀ R : It → Hp → Prop, (∀ H2, Ex H1 H2 → R (Itr lo n) H2) → wi σ H1 R)
    (hwp : ∀ x, wipe ((wipe σ vs).set j (some x)) vs = wipe σ vs) (body : ∀ (i : Nat) (H1 : Hp), i < n → EvM te ((wipe σ vs).set j (some (.int (lo + i)))) H1 (fun v _ => v = f i)) :
    EvM (tLc wi (gName j) tYes te vs) σ H (fun v H' => ∃ p, v = .ref p ∧ H' p = some (.lst ((List.range n).map f))) := fun H1 e Q q =>
  hw H1 e _ fun H2 e2 D hD => by
    refine lc_range (lo := lo) (n := n) (fun i H' => H' D = some (.lst ((List.range i).map f)) ∧ Ex H2 (delH H' D)) ⟨upd_same, fun a o ho => by rw [del_upd, delH_ne (ne_of_none ho hD)]; exact ho⟩ ?_ ?_
    · rintro i H' hi ⟨hy, e3⟩
      refine ⟨hwp _, ?_⟩
      simp only [tYes, ↓reduceIte]
      refine body i H' hi H' (Ex.refl H') _ fun y H4 e4 ey => ⟨_, e4 D _ hy, ?_, ?_, ?_⟩
      · rw [List.length_map, List.length_range]
        exact Nat.lt_of_lt_of_le (Nat.lt_of_lt_of_le hi hn) (by decide)
      · rw [upd_same, ey, List.range_succ, List.map_append]
        rfl
      · rw [del_upd]
        exact ex_tr e3 (ex_dels e4)
    · rintro H' ⟨hy, e3⟩
      exact q _ H' (ex_tr e2 (ex_tr e3 ex_del)) ⟨D, rfl, hy⟩
/-- C(e) -/
theorem em_err {C : Addr} {f : Str} {v : V} {P : VP} (he : EvM te σ H (fun u _ => u = v)) (k : ∀ a H', Ex H H' → ErrF H' a C f v → P (.ref a) H') : EvM (tErr C f (tCons te tNil)) σ H P := fun H1 e Q q =>
  he H1 e _ fun u H2 e2 eu => ⟨v, by rw [eu], fun a dx na nd ne => by
    have x1 : Ex H2 (upd (upd H2 dx (exd dx [(f, v)])) a (exo a C (some dx))) := ex_tr (Ex.new nd) (Ex.new (by rw [upd_ne (Ne.symm ne)]; exact na))
    refine q _ _ (ex_tr e2 x1) (k a _ (ex_tr (ex_tr e e2) x1) ⟨dx, upd_same, ?_⟩)
    rw [upd_ne ne]
    exact upd_same⟩
theorem em_err0 {C : Addr} {P : VP} (k : ∀ a H', Ex H H' → H' a = some (ExO (.ref C) a) → P (.ref a) H') : EvM (tErr0 C) σ H P := fun H1 e Q q a na =>
  q _ _ (Ex.new na) (k a _ (ex_tr e (Ex.new na)) upd_same)
theorem errF_grow {H H' : Hp} {a C : Addr} {f : Str} {v : V} (e : Ex H H') (h : ErrF H a C f v) : ErrF H' a C f v := by
  obtain ⟨dx, h1, h2⟩ := h
  exact ⟨dx, e _ _ h1, e _ _ h2⟩
theorem errAt_grow {H H' : Hp} {a C : Addr} (e : Ex H H') (h : ErrAt H a C) : ErrAt H' a C := by
  rcases h with ⟨f, v, h⟩ | h
  · exact .inl ⟨f, v, errF_grow e h⟩
  · exact .inr (e _ _ h)
/-- error.f -/
theorem em_xfld {a C : Addr} {f : Str} {v : V} {P : VP} (T : XIs K C) (no : PySem.W.findIn K (.ref C) f = some none) (he : EvM te σ H (fun u _ => u = .ref a)) (h : ErrF H a C f v) (k : ∀ H', Ex H H' → P v H') : EvM (tXfld K f te) σ H P := fun H1 e Q q =>
  he H1 e _ fun u H2 e2 eu => ⟨a, C, v, eu, T, no, errF_grow (ex_tr e e2) h, q _ H2 e2 (k H2 (ex_tr e e2))⟩
/-- isinstance(error, class) -/
theorem em_isx {ta tb : TE} {a C : Addr} {cv : V} {u : Value} {b : Bool} {P : VP} (T : XIs K C) (h : ErrAt H a C) (kc : ClsV cv u) (ks : PySem.W.kitOne K (.ref C) u = some b) (ha : EvM ta σ H (fun v _ => v = .ref a)) (hb : EvM tb σ H (fun v _ => v = cv))
    (k : ∀ H', Ex H H' → P (.bl b) H') : EvM (tCB (rIsX K) (tCons ta (tCons tb tNil))) σ H P := fun H1 e Q q =>
  ha H1 e _ fun v1 H2 e2 ev => hb H2 (ex_tr e e2) _ fun v2 H3 e3 ev2 => ⟨a, C, cv, u, b, by rw [ev, ev2], T, errAt_grow (ex_tr (ex_tr e e2) e3) h, kc, ks, q _ H3 (ex_tr e2 e3) (k H3 (ex_tr (ex_tr e e2) e3))⟩
end
end Tp

set_option maxHeartbeats 400000
namespace Tp
open PySem PySem.Spec PyProof.Rows L2
/-- the classes' places, and the field that each one of the first eighteen has -/
abbrev fVal : Str := "value"
def fldOf (i : Nat) : Str := if i < 15 then "value" else if i = 15 then "number" else if i = 16 then "many" else "line"
structure ErrTab (K : PySem.W.Frag) (cl : Nat → Addr) (S : Addr) : Prop where
  is : ∀ i, i < 24 → XIs K (cl i)
  no : ∀ i, i < 18 → PySem.W.findIn K (.ref (cl i)) (fldOf i) = some none
  kit : ∀ i j, i < 24 → j < 24 → PySem.W.kitOne K (.ref (cl i)) (.ref (cl j)) = some (decide (j = i))
  spark : ∀ i, i < 24 → PySem.W.kitOne K (.ref (cl i)) (.ref S) = some true
  val : ∀ i, i < 24 → PySem.W.kitOne K (.ref (cl i)) (.type "ValueError") = some true
def PErr (C : Addr) (f : Str) (v : V) : VP := fun x H => ∃ a, x = .ref a ∧ ErrF H a C f v
def PPair (C : Addr) (f : Str) (v : V) : VP := fun x H => ∃ p a b, x = .ref p ∧ H p = some (.tup [.ref a, .ref b]) ∧ ErrF H a C f v ∧ ErrF H b C f v
def PRow (C : Addr) (v : V) : VP := fun x H => ∃ p a b, x = .ref p ∧ H p = some (.tup [.ref a, .ref b, v, v]) ∧ ErrAt H a C ∧ ErrAt H b C
theorem grows_err {C : Addr} {f : Str} {v : V} : Grows (PErr C f v) := fun _ _ _ e ⟨a, h1, h2⟩ => ⟨a, h1, errF_grow e h2⟩
theorem grows_pair {C : Addr} {f : Str} {v : V} : Grows (PPair C f v) := fun _ _ _ e ⟨p, a, b, h1, h2, h3, h4⟩ => ⟨p, a, b, h1, e _ _ h2, errF_grow e h3, errF_grow e h4⟩
theorem grows_row {C : Addr} {v : V} : Grows (PRow C v) := fun _ _ _ e ⟨p, a, b, h1, h2, h3, h4⟩ => ⟨p, a, b, h1, e _ _ h2, errAt_grow e h3, errAt_grow e h4⟩
theorem grows_eq {x : V} : Grows (fun v _ => v = x) := fun _ _ _ _ h => h
abbrev tE (C : Addr) (f : Str) : TE := tErr C f (tCons (tVar 0) tNil)
abbrev tPr (C : Addr) : TE := tt [tE C "value", tE C "value"]
abbrev tRow (K : PySem.W.Frag) (f : Str) : TE := tt [tVar 2, tVar 3, tXfld K f (tVar 2), tXfld K f (tVar 3)]
section
variable {K : PySem.W.Frag} {cl : Nat → Addr} {S : Addr} {σ : L2.St} {H : Hp} {v : V}
theorem em_e {C : Addr} {f : Str} (h0 : σ[0]? = some (some v)) : EvM (tE C f) σ H (PErr C f v) := em_err (em_var h0 fun _ _ => rfl) fun a _ _ h => ⟨a, rfl, h⟩
theorem allP2 {P Q : VP} {vs : List V} (h : AllP H [P, Q] vs) : ∃ x y, vs = [x, y] ∧ P x H ∧ Q y H := by
  cases h with
  | cons h1 h2 =>
    cases h2 with
    | cons h3 h4 =>
      cases h4
      exact ⟨_, _, rfl, h1, h3⟩
theorem allP4 {P Q R T : VP} {vs : List V} (h : AllP H [P, Q, R, T] vs) : ∃ x y z u, vs = [x, y, z, u] ∧ P x H ∧ Q y H ∧ R z H ∧ T u H := by
  cases h with
  | cons h1 h2 =>
    cases h2 with
    | cons h3 h4 =>
      obtain ⟨z, u, rfl, h5, h6⟩ := allP2 h4
      exact ⟨_, _, _, _, rfl, h1, h3, h5, h6⟩
theorem em_pr {C : Addr} (h0 : σ[0]? = some (some v)) : EvM (tPr C) σ H (PPair C "value" v) := by
  refine em_tup (Ps := [PErr C "value" v, PErr C "value" v]) (.cons grows_err (.cons grows_err .nil)) (ems_cons grows_err (em_e h0) (ems_cons grows_err (em_e h0) ems_nil)) (by show 2 ≤ 1000; decide) fun p vs H' _ al hp _ => ?_
  obtain ⟨x, y, rfl, ⟨a, rfl, ha⟩, ⟨b, rfl, hb⟩⟩ := allP2 al
  exact ⟨p, a, b, rfl, hp, ha, hb⟩
/-- (one, two, one.f, two.f) -/
theorem em_row {C a b D : Addr} {f : Str} (T : XIs K C) (no : PySem.W.findIn K (.ref C) f = some none) (hD : H D ≠ none) (ha : σ[2]? = some (some (.ref a))) (hb : σ[3]? = some (some (.ref b))) (ea : ErrF (delH H D) a C f v) (eb : ErrF (delH H D) b C f v) :
    EvM (tRow K f) σ H (fun x H' => PRow C v x (delH H' D)) := by
  refine em_tup (Ps := [fun x _ => x = .ref a, fun x _ => x = .ref b, fun x _ => x = v, fun x _ => x = v]) (.cons grows_eq (.cons grows_eq (.cons grows_eq (.cons grows_eq .nil)))) ?_ (by show 4 ≤ 1000; decide) fun p vs H' e al hp hn => ?_
  · refine ems_cons grows_eq (em_var ha fun _ _ => rfl) (ems_cons grows_eq (em_var hb fun _ _ => rfl) (ems_cons grows_eq ?_ (ems_cons grows_eq ?_ ems_nil)))
    · exact em_xfld T no (em_var ha fun _ _ => rfl) (errF_grow ex_del ea) fun _ _ => rfl
    · exact em_xfld T no (em_var hb fun _ _ => rfl) (errF_grow ex_del eb) fun _ _ => rfl
  · obtain ⟨_, _, _, _, rfl, x1, x2, x3, x4⟩ := allP4 al
    rw [x1, x2, x3, x4] at hp
    have ne : p ≠ D := fun z => hD (by rw [← z]; exact hn)
    exact ⟨p, a, b, rfl, by rw [delH_ne ne]; exact hp, .inl ⟨f, v, errF_grow (ex_dels e) ea⟩, .inl ⟨f, v, errF_grow (ex_dels e) eb⟩⟩

/-! ### _law_valued -/
abbrev NVal : List Str := ["thing", "found", "one", "two"]
def t_valued (K : PySem.W.Frag) (cl : Nat → Addr) : TS :=
  tSeq (tAsg (tLst (tas [tPr (cl 0), tPr (cl 1)])) (gName 1))
  (tSeq (tAsg (tOp rCat (tVar 1) (tLst (tas [tPr (cl 2), tPr (cl 3)]))) (gName 1))
  (tSeq (tAsg (tOp rCat (tVar 1) (tLst (tas [tPr (cl 4), tPr (cl 5)]))) (gName 1))
  (tSeq (tAsg (tOp rCat (tVar 1) (tLst (tas [tPr (cl 6), tPr (cl 7)]))) (gName 1))
  (tSeq (tAsg (tOp rCat (tVar 1) (tLst (tas [tPr (cl 8), tPr (cl 9)]))) (gName 1))
  (tSeq (tAsg (tOp rCat (tVar 1) (tLst (tas [tPr (cl 10), tPr (cl 11)]))) (gName 1))
  (tSeq (tAsg (tOp rCat (tVar 1) (tLst (tas [tPr (cl 12), tPr (cl 13), tPr (cl 14)]))) (gName 1))
  (tRet (tLc (iList K (tVar 1)) (gTup K 2 (gCons (gName 2) (gCons (gName 3) gNil))) tYes (tRow K "value") [2, 3]))))))))
def rowsP (cl : Nat → Addr) (v : V) (l : List Nat) : List VP := l.map fun i => PRow (cl i) v
def spRows (cl : Nat → Addr) (n : Nat) : Sp := fun vs H Q _ => ∃ v, vs = [v] ∧ ∀ p xs H', H p = none → Ex H (delH H' p) → H' p = some (.lst xs) → AllP (delH H' p) (rowsP cl v (List.range n)) xs → Q (.ref p) H'
theorem prs {l : List Nat} (h0 : σ[0]? = some (some v)) : EvMs (tas (l.map fun i => tPr (cl i))) σ H (l.map fun i => PPair (cl i) "value" v) := by
  induction l with
  | nil => exact ems_nil
  | cons i l ih => exact ems_cons grows_pair (em_pr h0) ih
theorem gPair (l : List Nat) : GrowsAll (l.map fun i => PPair (cl i) "value" v) := GrowsAll.map (fun _ => grows_pair) l
/-- found = found + [..] -/
theorem more_pairs {tz : TS} {D : Ends} {l m : List Nat} {x y z : Option V} {u : V} (hl : l.length + m.length ≤ 100) (p : PL (l.map fun i => PPair (cl i) "value" v) u H)
    (k : ∀ u' H1, Ex H H1 → PL ((l ++ m).map fun i => PPair (cl i) "value" v) u' H1 → tz D [some v, some u', y, z] H1) :
    tSeq (tAsg (tOp rCat (tVar 1) (tLst (tas (m.map fun i => tPr (cl i))))) (gName 1)) tz D [some v, some u, y, z] H := by
  refine q_asg (P := PL ((l ++ m).map fun i => PPair (cl i) "value" v)) ?_ fun u' H1 e p1 => k u' H1 e p1
  rw [List.map_append]
  exact em_cat (gPair l) (gPair m) (em_var (v := u) rfl fun H' e => grows_PL (gPair l) _ _ _ e p) (em_PL (gPair m) (prs rfl) (by rw [List.length_map]; omega)) (by rw [List.length_map, List.length_map]; omega)
theorem pure_valued (T : ErrTab K cl S) (vs : List V) (H : Hp) (Q : VK) (E : XK) (h : spRows cl 15 vs H Q E) : t_valued K cl { nx := fun _ H' => Q .non H', rt := Q } (start NVal vs) H := by
  obtain ⟨v, rfl, k⟩ := h
  unfold t_valued
  refine q_asg (P := PL (([0, 1] : List Nat).map fun i => PPair (cl i) "value" v)) (em_PL (gPair [0, 1]) (prs (l := [0, 1]) rfl) (by show 2 ≤ 1000; decide)) fun u1 H1 e1 p1 => ?_
  refine more_pairs (l := [0, 1]) (m := [2, 3]) (x := none) (y := none) (z := none) (by decide) p1 fun u2 H2 e2 p2 => ?_
  refine more_pairs (l := [0, 1, 2, 3]) (m := [4, 5]) (x := none) (y := none) (z := none) (by decide) p2 fun u3 H3 e3 p3 => ?_
  refine more_pairs (l := [0, 1, 2, 3, 4, 5]) (m := [6, 7]) (x := none) (y := none) (z := none) (by decide) p3 fun u4 H4 e4 p4 => ?_
  refine more_pairs (l := [0, 1, 2, 3, 4, 5, 6, 7]) (m := [8, 9]) (x := none) (y := none) (z := none) (by decide) p4 fun u5 H5 e5 p5 => ?_
  refine more_pairs (l := [0, 1, 2, 3, 4, 5, 6, 7, 8, 9]) (m := [10, 11]) (x := none) (y := none) (z := none) (by decide) p5 fun u6 H6 e6 p6 => ?_
  refine more_pairs (l := [0, 1, 2, 3, 4, 5, 6, 7, 8, 9, 10, 11]) (m := [12, 13, 14]) (x := none) (y := none) (z := none) (by decide) p6 fun u7 H7 e7 p7 => ?_
  have e07 := ex_tr (ex_tr (ex_tr (ex_tr (ex_tr (ex_tr e1 e2) e3) e4) e5) e6) e7
  refine q_ret (P := fun x H' => ∃ p xs, x = .ref p ∧ H p = none ∧ Ex H (delH H' p) ∧ H' p = some (.lst xs) ∧ AllP (delH H' p) (rowsP cl v (List.range 15)) xs) ?_ fun x H8 e8 ⟨p, xs, ex, hn, he, hp, ha⟩ => ex ▸ k p xs H8 hn he hp ha
  refine em_lc (Ps := (List.range 15).map fun i => PPair (cl i) "value" v) (gPair _) (Rs := (List.range 15).map fun i => PRow (cl i) v) (GrowsAll.map (fun _ => grows_row) _) (by rw [List.length_map, List.length_map]) (by rw [List.length_map]; decide) (em_var (v := u7) rfl fun H' e => grows_PL (gPair _) _ _ _ e p7)
    (fun D i P R x H' hD hE hP hR px => ?_) fun D ys H' hn hE hp ha => ⟨D, ys, rfl, back e07 hn, ex_tr e07 hE, hp, ha⟩
  rw [List.getElem?_map] at hP hR
  obtain ⟨j, hj, rfl⟩ := Option.map_eq_some_iff.mp hP
  obtain ⟨j', hj', rfl⟩ := Option.map_eq_some_iff.mp hR
  rw [hj] at hj'
  cases hj'
  have hj15 : j < 15 := by
    have := List.mem_of_getElem? hj
    exact List.mem_range.mp this
  obtain ⟨p, a, b, rfl, hp, ha, hb⟩ := px
  refine ⟨[some v, some u7, some (.ref a), some (.ref b)], fun Q q => ?_, rfl, em_row (T.is j (by omega)) (by have := T.no j (by omega); unfold fldOf at this; rw [if_pos hj15] at this; exact this) hD rfl rfl ha hb⟩
  exact ⟨p, _, rfl, SqT.of (ex_del p _ hp), rfl, _, _, rfl, _, _, rfl, rfl, q⟩
end
end Tp

set_option maxHeartbeats 400000
namespace Tp
open PySem PySem.Spec PyProof.Rows L2
section
variable {K : PySem.W.Frag} {cl : Nat → Addr} {S : Addr} {σ : L2.St} {H : Hp} {v : V}
/-! ### _law_kept -/
abbrev tTwo (C : Addr) (f : Str) : TS := tPar 2 3 (tCons (tE C f) (tCons (tE C f) tNil))
abbrev tApp (K : PySem.W.Frag) (f : Str) : TS := tDrop (tBM K "list" rAppend (tVar 1) (tCons (tRow K f) tNil))
def t_kept (K : PySem.W.Frag) (cl : Nat → Addr) : TS :=
  tSeq (tAsg (tCall (spRows cl 15) [] E0 (tCons (tVar 0) tNil)) (gName 1))
  (tSeq (tTwo (cl 15) "number") (tSeq (tApp K "number") (tSeq (tTwo (cl 16) "many") (tSeq (tApp K "many") (tSeq (tTwo (cl 17) "line")
  (tRet (tOp rCat (tVar 1) (tLst (tas [tRow K "line"])))))))))
theorem rows_snoc (n : Nat) : rowsP cl v (List.range (n + 1)) = rowsP cl v (List.range n) ++ [PRow (cl n) v] := by
  unfold rowsP
  rw [List.range_succ, List.map_append]
  rfl
theorem gRows (l : List Nat) : GrowsAll (rowsP cl v l) := GrowsAll.map (fun _ => grows_row) l
theorem q_par {ta : TA} {tz : TS} {D : Ends} {Ps : List VP} {i j : Nat} (h : EvMs ta σ H Ps) (k : ∀ vs H1, Ex H H1 → AllP H1 Ps vs → ∃ v w, vs = [v, w] ∧ tz D ((σ.set i (some v)).set j (some w)) H1) : tSeq (tPar i j ta) tz D σ H := h H (Ex.refl H) _ k
/-- the rows so far at q, none of them leaning on q -/
def Rows (cl : Nat → Addr) (v : V) (H0 : Hp) (q : Addr) (n : Nat) (H : Hp) : Prop := H0 q = none ∧ Ex H0 (delH H q) ∧ ∃ xs, H q = some (.lst xs) ∧ AllP (delH H q) (rowsP cl v (List.range n)) xs
theorem two_step {H0 : Hp} {q : Addr} {n : Nat} {tz : TS} {D : Ends} {C : Addr} {f : Str} {y z : Option V} (h : Rows cl v H0 q n H)
    (k : ∀ a b H1, Rows cl v H0 q n H1 → ErrF (delH H1 q) a C f v → ErrF (delH H1 q) b C f v → tz D [some v, some (.ref q), some (.ref a), some (.ref b)] H1) : tSeq (tTwo C f) tz D [some v, some (.ref q), y, z] H := by
  obtain ⟨hn, he, xs, hq, ha⟩ := h
  have hq' : H q ≠ none := fun e => by rw [hq] at e; cases e
  have g : Grows (fun x H' => PErr C f v x (delH H' q)) := fun x A B e ⟨a, h1, h2⟩ => ⟨a, h1, errF_grow (ex_dels e) h2⟩
  have one : EvM (tE C f) [some v, some (.ref q), y, z] H (fun x H' => PErr C f v x (delH H' q)) := fun H1 e Q k =>
    ⟨v, rfl, v, rfl, fun a dx na nd ne => by
      have x1 : Ex H1 (upd (upd H1 dx (exd dx [(f, v)])) a (exo a C (some dx))) := ex_tr (Ex.new nd) (Ex.new (by rw [upd_ne (Ne.symm ne)]; exact na))
      have n1 : a ≠ q := fun z => by rw [z] at na; rw [e q _ hq] at na; cases na
      have n2 : dx ≠ q := fun z => by rw [z] at nd; rw [e q _ hq] at nd; cases nd
      refine k _ _ x1 ⟨a, rfl, dx, by rw [delH_ne n1]; exact upd_same, ?_⟩
      rw [delH_ne n2, upd_ne ne]
      exact upd_same⟩
  refine q_par (ems_cons (Ps := [fun x H' => PErr C f v x (delH H' q)]) g one (ems_cons g one ems_nil)) fun vs H1 e1 al => ?_
  obtain ⟨x, u, rfl, ⟨a, rfl, ea⟩, ⟨b, rfl, eb⟩⟩ := allP2 al
  exact ⟨_, _, rfl, k a b H1 ⟨hn, ex_tr he (ex_dels e1), xs, e1 q _ hq, ha.grow (ex_dels e1) (gRows _)⟩ ea eb⟩
theorem app_step {H0 : Hp} {q a b : Addr} {n : Nat} {tz : TS} {D : Ends} {f : Str} (hn : n < 100) (h : Rows cl v H0 q n H) (T : XIs K (cl n)) (no : PySem.W.findIn K (.ref (cl n)) f = some none) (ea : ErrF (delH H q) a (cl n) f v) (eb : ErrF (delH H q) b (cl n) f v)
    (k : ∀ H1, Rows cl v H0 q (n + 1) H1 → tz D [some v, some (.ref q), some (.ref a), some (.ref b)] H1) : tSeq (tApp K f) tz D [some v, some (.ref q), some (.ref a), some (.ref b)] H := by
  obtain ⟨h0, he, xs, hq, ha⟩ := h
  have hq' : H q ≠ none := fun e => by rw [hq] at e; cases e
  refine ⟨_, rfl, .inl ⟨rfl, xs, SqL.of hq⟩, ?_⟩
  have g : Grows (fun x H' => PRow (cl n) v x (delH H' q)) := fun x A B e px => grows_row x _ _ (ex_dels e) px
  refine ems_cons (Ps := []) g (em_row (σ := [some v, some (.ref q), some (.ref a), some (.ref b)]) T no hq' rfl rfl ea eb) ems_nil H (Ex.refl H) _ fun us H1 e1 al => ?_
  obtain ⟨x, rfl, px⟩ : ∃ x, us = [x] ∧ PRow (cl n) v x (delH H1 q) := by
    cases al with
    | cons h1 h2 =>
      cases h2
      exact ⟨_, rfl, h1⟩
  have hl : xs.length = n := by
    rw [ha.len]
    unfold rowsP
    rw [List.length_map, List.length_range]
  refine ⟨q, xs, x, rfl, rfl, e1 q _ hq, Nat.lt_of_lt_of_le (show xs.length < 100 by omega) (by decide), k _ ⟨h0, ?_, xs ++ [x], upd_same, ?_⟩⟩
  · rw [del_upd]
    exact ex_tr he (ex_dels e1)
  · rw [del_upd, rows_snoc]
    exact (ha.grow (ex_dels e1) (gRows _)).app (.cons px .nil)
theorem pure_kept (T : ErrTab K cl S) (vs : List V) (H : Hp) (Q : VK) (E : XK) (h : spRows cl 18 vs H Q E) : t_kept K cl { nx := fun _ H' => Q .non H', rt := Q } (start NVal vs) H := by
  obtain ⟨v, rfl, k⟩ := h
  refine ⟨_, rfl, v, rfl, fun q xs H1 hn he hq ha => ?_⟩
  have h1 : Rows cl v H q 15 H1 := ⟨hn, he, xs, hq, ha⟩
  refine two_step (y := none) (z := none) h1 fun a b H2 h2 ea eb => ?_
  refine app_step (by decide) h2 (T.is 15 (by decide)) (T.no 15 (by decide)) ea eb fun H3 h3 => ?_
  refine two_step h3 fun a b H4 h4 ea eb => ?_
  refine app_step (by decide) h4 (T.is 16 (by decide)) (T.no 16 (by decide)) ea eb fun H5 h5 => ?_
  refine two_step h5 fun a b H6 h6 ea eb => ?_
  obtain ⟨_, he6, ys, hq6, ha6⟩ := h6
  have hq' : H6 q ≠ none := fun e => by rw [hq6] at e; cases e
  have g : Grows (fun x H' => PRow (cl 17) v x (delH H' q)) := fun x A B e px => grows_row x _ _ (ex_dels e) px
  refine ⟨_, rfl, ?_⟩
  refine em_PL (Ps := [fun x H' => PRow (cl 17) v x (delH H' q)]) (.cons g .nil) (ems_cons g (em_row (T.is 17 (by decide)) (T.no 17 (by decide)) hq' rfl rfl ea eb) ems_nil) (by show 1 ≤ 1000; decide) H6 (Ex.refl H6) _ fun u H7 e7 pu => ?_
  obtain ⟨r, zs, rfl, hr, hz⟩ := pu
  have hl : ys.length = 17 := by
    rw [ha6.len]
    unfold rowsP
    rw [List.length_map, List.length_range]
  have hlz : zs.length = 1 := hz.len
  refine ⟨q, r, ys, zs, rfl, rfl, e7 q _ hq6, hr, by rw [hl, hlz]; decide, fun p hp => ?_⟩
  have x1 : Ex (delH H7 q) (upd H7 p (.lst (ys ++ zs))) := ex_tr ex_del (Ex.new hp)
  have np : delH H7 q p = none := back ex_del hp
  have x2 := ex_del2 np x1
  have x3 : Ex H (delH (upd H7 p (.lst (ys ++ zs))) p) := ex_tr (ex_tr he6 (ex_dels e7)) x2
  refine k p (ys ++ zs) _ (back (ex_tr he6 (ex_dels e7)) np) x3 upd_same ?_
  rw [show (18 : Nat) = 17 + 1 from rfl, rows_snoc]
  refine AllP.app ((ha6.grow (ex_dels e7) (gRows _)).grow x2 (gRows _)) ?_
  cases hz with
  | cons h1 h2 =>
    cases h2
    exact .cons (grows_row _ _ _ x2 h1) .nil

/-! ### _law_sorts -/
abbrev NSort : List Str := ["error", "found"]
abbrev tIs (K : PySem.W.Frag) (C : Addr) : TE := tCB (rIsX K) (tCons (tVar 0) (tCons (tC (.ref C)) tNil))
def isL (K : PySem.W.Frag) (cl : Nat → Addr) (l : List Nat) : TE := tLst (tas (l.map fun j => tIs K (cl j)))
def t_sorts (K : PySem.W.Frag) (cl : Nat → Addr) : TS :=
  tSeq (tAsg (isL K cl [0, 1, 2, 3]) (gName 1))
  (tSeq (tAsg (tOp rCat (tVar 1) (isL K cl [4, 5, 6, 7])) (gName 1))
  (tSeq (tAsg (tOp rCat (tVar 1) (isL K cl [8, 9, 10, 11])) (gName 1))
  (tSeq (tAsg (tOp rCat (tVar 1) (isL K cl [12, 13, 14, 15])) (gName 1))
  (tSeq (tAsg (tOp rCat (tVar 1) (isL K cl [16, 17, 18, 19])) (gName 1))
  (tRet (tOp rCat (tVar 1) (isL K cl [20, 21, 22, 23])))))))
def bitsOf (i : Nat) : List V := (List.range 24).map fun j => V.bl (decide (j = i))
def spSorts (cl : Nat → Addr) : Sp := fun vs H Q _ => ∃ (a : Addr) (i : Nat), vs = [.ref a] ∧ i < 24 ∧ ErrAt H a (cl i) ∧ ∀ p H', H p = none → Ex H H' → H' p = some (.lst (bitsOf i)) → Q (.ref p) H'
abbrev bitP (i : Nat) (l : List Nat) : List VP := l.map fun j => (fun x _ => x = V.bl (decide (j = i)))
theorem gBit (i : Nat) (l : List Nat) : GrowsAll (bitP i l) := GrowsAll.map (fun _ => grows_eq) l
theorem bits_eq {i : Nat} : ∀ {l : List Nat} {xs : List V}, AllP H (bitP i l) xs → xs = l.map fun j => V.bl (decide (j = i))
  | [], _, h => by cases h; rfl
  | j :: l, _, h => by
    cases h with
    | cons h1 h2 => rw [List.map_cons, h1, bits_eq h2]
theorem ems_is (T : ErrTab K cl S) {a : Addr} {i : Nat} (hi : i < 24) (h0 : σ[0]? = some (some (.ref a))) (ha : ErrAt H a (cl i)) : ∀ {l : List Nat}, (∀ j ∈ l, j < 24) → EvMs (tas (l.map fun j => tIs K (cl j))) σ H (bitP i l)
  | [], _ => ems_nil
  | j :: l, hl => ems_cons grows_eq (em_isx (T.is i hi) ha (.own (cl j)) (T.kit i j hi (hl j List.mem_cons_self)) (em_var h0 fun _ _ => rfl) (em_c fun _ _ => rfl) fun _ _ => rfl) (ems_is T hi h0 ha fun k hk => hl k (List.mem_cons_of_mem _ hk))
theorem em_isL (T : ErrTab K cl S) {a : Addr} {i : Nat} (hi : i < 24) (h0 : σ[0]? = some (some (.ref a))) (ha : ErrAt H a (cl i)) {l : List Nat} (hl : ∀ j ∈ l, j < 24) (hz : l.length ≤ 100) : EvM (isL K cl l) σ H (PL (bitP i l)) :=
  em_PL (gBit i l) (ems_is T hi h0 ha hl) (by rw [List.length_map]; omega)
theorem more_bits (T : ErrTab K cl S) {tz : TS} {D : Ends} {l m : List Nat} {a : Addr} {u : V} {i : Nat} (hi : i < 24) (ha : ErrAt H a (cl i)) (hm : ∀ j ∈ m, j < 24) (hl : l.length + m.length ≤ 100) (p : PL (bitP i l) u H)
    (k : ∀ u' H1, Ex H H1 → PL (bitP i (l ++ m)) u' H1 → tz D [some (.ref a), some u'] H1) : tSeq (tAsg (tOp rCat (tVar 1) (isL K cl m)) (gName 1)) tz D [some (.ref a), some u] H := by
  refine q_asg (P := PL (bitP i (l ++ m))) ?_ fun u' H1 e p1 => k u' H1 e p1
  show EvM _ _ _ (PL (List.map _ (l ++ m)))
  rw [List.map_append]
  exact em_cat (gBit i l) (gBit i m) (em_var (v := u) rfl fun H' e => grows_PL (gBit i l) _ _ _ e p) (em_isL T hi rfl ha hm (by omega)) (by rw [List.length_map, List.length_map]; omega)
theorem pure_sorts (T : ErrTab K cl S) (vs : List V) (H : Hp) (Q : VK) (E : XK) (h : spSorts cl vs H Q E) : t_sorts K cl { nx := fun _ H' => Q .non H', rt := Q } (start NSort vs) H := by
  obtain ⟨a, i, rfl, hi, ha, k⟩ := h
  unfold t_sorts
  refine q_asg (P := PL (bitP i [0, 1, 2, 3])) (em_isL T hi rfl ha (by decide) (by decide)) fun u1 H1 e1 p1 => ?_
  refine more_bits T (l := [0, 1, 2, 3]) (m := [4, 5, 6, 7]) hi (errAt_grow e1 ha) (by decide) (by decide) p1 fun u2 H2 e2 p2 => ?_
  have f2 := ex_tr e1 e2
  refine more_bits T (l := [0, 1, 2, 3, 4, 5, 6, 7]) (m := [8, 9, 10, 11]) hi (errAt_grow f2 ha) (by decide) (by decide) p2 fun u3 H3 e3 p3 => ?_
  have f3 := ex_tr f2 e3
  refine more_bits T (l := [0, 1, 2, 3, 4, 5, 6, 7, 8, 9, 10, 11]) (m := [12, 13, 14, 15]) hi (errAt_grow f3 ha) (by decide) (by decide) p3 fun u4 H4 e4 p4 => ?_
  have f4 := ex_tr f3 e4
  refine more_bits T (l := [0, 1, 2, 3, 4, 5, 6, 7, 8, 9, 10, 11, 12, 13, 14, 15]) (m := [16, 17, 18, 19]) hi (errAt_grow f4 ha) (by decide) (by decide) p4 fun u5 H5 e5 p5 => ?_
  have f5 := ex_tr f4 e5
  obtain ⟨q, xs, rfl, hq, hx⟩ := p5
  refine ⟨_, rfl, em_isL T hi rfl (errAt_grow f5 ha) (by decide) (by decide) H5 (Ex.refl H5) _ fun w H6 e6 ⟨r, ys, ew, hr, hy⟩ => ?_⟩
  have hlx : xs.length = 20 := hx.len
  have hly : ys.length = 4 := hy.len
  refine ⟨q, r, xs, ys, rfl, ew, e6 q _ hq, hr, by rw [hlx, hly]; decide, fun p hp => ?_⟩
  have n6 := Ex.new (o := .lst (xs ++ ys)) hp
  refine k p _ (back (ex_tr f5 e6) hp) (ex_tr (ex_tr f5 e6) n6) ?_
  rw [upd_same, bits_eq hx, bits_eq hy]
  rfl
end
end Tp

set_option maxHeartbeats 400000
namespace Tp
open PySem PySem.Spec PyProof.Rows L2
section
variable {K : PySem.W.Frag} {cl : Nat → Addr} {S : Addr} {σ : L2.St} {H : Hp} {v : V} {te : TE} {vs : List Nat}
/-- a comprehension over a range, each item's value by a word of its own -/
theorem em_lcW {wi : TI} {lo : Int} {n : Nat} {R : Nat → VP} {j : Nat} {PO : VP} (hn : n ≤ 1000) (gR : ∀ i, Grows (R i)) (hw : ∀ H1, Ex H H1 → ∀ T : It → Hp → Prop, (∀ H2, Ex H1 H2 → T (Itr lo n) H2) → wi σ H1 T)
    (hwp : ∀ x, wipe ((wipe σ vs).set j (some x)) vs = wipe σ vs) (body : ∀ (D : Addr) (i : Nat) (H1 : Hp), H1 D ≠ none → i < n → EvM te ((wipe σ vs).set j (some (.int (lo + i)))) H1 (fun v H' => R i v (delH H' D)))
    (k : ∀ D ys H', H D = none → Ex H (delH H' D) → H' D = some (.lst ys) → AllP (delH H' D) ((List.range n).map R) ys → PO (.ref D) H') :
    EvM (tLc wi (gName j) tYes te vs) σ H PO := fun H1 e Q q =>
  hw H1 e _ fun H2 e2 D hD => by
    have g : ∀ m, GrowsAll ((List.range m).map R) := fun m => GrowsAll.map gR _
    refine lc_range (lo := lo) (n := n) (fun i H' => ∃ ys, H' D = some (.lst ys) ∧ AllP (delH H' D) ((List.range i).map R) ys ∧ Ex H2 (delH H' D)) ⟨[], upd_same, .nil, fun a o ho => by rw [del_upd, delH_ne (ne_of_none ho hD)]; exact ho⟩ ?_ ?_
    · rintro i H' hi ⟨ys, hy, hall, e3⟩
      refine ⟨hwp _, ?_⟩
      simp only [tYes, ↓reduceIte]
      refine body D i H' (fun z => by rw [hy] at z; cases z) hi H' (Ex.refl H') _ fun y H4 e4 ey => ⟨ys, e4 D _ hy, ?_, ys ++ [y], upd_same, ?_, ?_⟩
      · have z := hall.len
        rw [List.length_map, List.length_range] at z
        exact Nat.lt_of_le_of_lt (show ys.length ≤ 1000 by omega) (by decide)
      · rw [del_upd, List.range_succ, List.map_append]
        exact (hall.grow (ex_dels e4) (g i)).app (.cons ey .nil)
      · rw [del_upd]
        exact ex_tr e3 (ex_dels e4)
    · rintro H' ⟨ys, hy, hall, e3⟩
      exact q _ H' (ex_tr e2 (ex_tr e3 ex_del)) (k D ys H' (back (ex_tr e e2) hD) (ex_tr (ex_tr e e2) e3) hy hall)
theorem rng1 {n : Int} (h : 0 ≤ n ∧ n ≤ 1000) : ∀ H1 : Hp, Ex H H1 → ∀ T : It → Hp → Prop, (∀ H2, Ex H1 H2 → T (Itr 0 n.toNat) H2) → iRng1 (tCons (c n) tNil) σ H1 T := fun H1 _ T q => ⟨n, rfl, by omega, by omega, q H1 (Ex.refl H1)⟩
theorem rng2 {a b : Int} (h : 0 ≤ a ∧ a ≤ 1000) (h2 : 0 ≤ b ∧ b ≤ 1000) : ∀ H1 : Hp, Ex H H1 → ∀ T : It → Hp → Prop, (∀ H2, Ex H1 H2 → T (Itr a (b - a).toNat) H2) → iRng2 (tCons (c a) (tCons (c b) tNil)) σ H1 T :=
  fun H1 _ T q => ⟨a, b, rfl, ⟨by omega, by omega, by omega, by omega⟩, q H1 (Ex.refl H1)⟩

/-! ### bits as data -/
def bitsD (l : List Bool) : PyData := .list (l.map PyData.bool)
theorem dp_bits (l : List Bool) : DpAll K H (l.map V.bl) (l.map PyData.bool) := by
  induction l with
  | nil => exact .nil
  | cons b l ih => exact .cons (.bl b) ih
def bitB (i : Nat) : List Bool := (List.range 24).map fun j => decide (j = i)
theorem bitsOf_eq (i : Nat) : bitsOf i = (bitB i).map V.bl := by
  unfold bitsOf bitB
  rw [List.map_map]
  rfl
theorem canLay_bits (l : List Bool) : PyData.canLay0 (bitsD l) = true ∧ PyData.depth (bitsD l) ≤ 1 := by
  unfold bitsD
  simp only [PyData.canLay0, PyData.depth]
  have h : ∀ l : List Bool, PyData.canLayAll0 (l.map PyData.bool) = true ∧ PyData.depthAll (l.map PyData.bool) = 0 := by
    intro l
    induction l with
    | nil => exact ⟨rfl, rfl⟩
    | cons b l ih =>
      simp only [List.map_cons, PyData.canLayAll0, PyData.depthAll, PyData.canLay0, PyData.depth, ih.1, ih.2]
      exact ⟨rfl, rfl⟩
  exact ⟨(h l).1, by rw [(h l).2]; decide⟩
theorem wipe1 (σ : L2.St) (j : Nat) (x : V) : wipe ((wipe σ [j]).set j (some x)) [j] = wipe σ [j] := by
  show ((σ.set j none).set j (some x)).set j none = σ.set j none
  rw [List.set_set, List.set_set]
abbrev tBits : TE := tLc (iRng1 (tCons (c 24) tNil)) (gName 10) tYes (tOp rEq (tVar 10) (tVar 6)) [10]
def PBits (i : Nat) : VP := fun x H => ∃ p, x = .ref p ∧ H p = some (.lst (bitsOf i))
theorem grows_bits {i : Nat} : Grows (PBits i) := fun _ _ _ e ⟨p, h1, h2⟩ => ⟨p, h1, e _ _ h2⟩
theorem em_bits {i : Nat} {PO : VP} (h10 : 10 < σ.length) (h6 : σ[6]? = some (some (.int (i : Int)))) (k : ∀ p H', H p = none → Ex H (delH H' p) → H' p = some (.lst (bitsOf i)) → PO (.ref p) H') : EvM tBits σ H PO := by
  refine em_lcW (lo := 0) (n := 24) (R := fun j x _ => x = V.bl (decide (j = i))) (by decide) (fun _ => grows_eq) (rng1 (n := 24) (by decide)) (wipe1 σ 10) (fun D j H1 _ _ => ?_) fun D ys H' hn he hp ha => k D H' hn he ?_
  · have e10 : ((wipe σ [10]).set 10 (some (.int (0 + (j : Int)))))[10]? = some (some (.int (0 + (j : Int)))) := by
      rw [List.getElem?_set_self]
      show 10 < (σ.set 10 none).length
      rw [List.length_set]
      exact h10
    have e6 : ((wipe σ [10]).set 10 (some (.int (0 + (j : Int)))))[6]? = some (some (.int (i : Int))) := by
      rw [List.getElem?_set_ne (by decide)]
      show (σ.set 10 none)[6]? = _
      rw [List.getElem?_set_ne (by decide)]
      exact h6
    intro H2 e Q q
    refine ⟨_, e10, _, e6, rfl, q _ H2 (Ex.refl H2) ?_⟩
    congr 1
    rw [decide_eq_decide]
    constructor
    · intro h
      have := V.int.inj h
      omega
    · intro h
      rw [h]
      simp
  · rw [hp, bitsOf]
    have e : ∀ {l : List Nat} {xs : List V} {Hq : Hp}, AllP Hq (l.map fun j => (fun x _ => x = V.bl (decide (j = i)))) xs → xs = l.map fun j => V.bl (decide (j = i)) := fun {l xs Hq} h => bits_eq h
    rw [e ha]
theorem em_sorts {i : Nat} {e : Addr} {PO : VP} (h8 : σ[8]? = some (some (.ref e))) (hi : i < 24) (he : ErrAt H e (cl i)) (k : ∀ p H', H p = none → Ex H H' → H' p = some (.lst (bitsOf i)) → PO (.ref p) H') :
    EvM (tCall (spSorts cl) [] E0 (tCons (tVar 8) tNil)) σ H PO := fun H1 e1 Q q =>
  ⟨_, h8, e, i, rfl, hi, errAt_grow e1 he, fun p H' hn hx hp => q _ H' hx (k p H' (back e1 hn) (ex_tr e1 hx) hp)⟩
theorem shaped_bits (l : List Bool) : SeqAt.shaped (bitsD l) = true := by
  obtain ⟨h1, h2⟩ := canLay_bits l
  exact Bool.and_eq_true_iff.mpr ⟨h1, decide_eq_true (by omega)⟩
theorem test_sorts {i : Nat} {e : Addr} (h10 : 10 < σ.length) (h6 : σ[6]? = some (some (.int (i : Int)))) (h8 : σ[8]? = some (some (.ref e))) (hi : i < 24) (he : ErrAt H e (cl i)) :
    Evl.EvT (tTest (tOp (rNeD K) (tCall (spSorts cl) [] E0 (tCons (tVar 8) tNil)) tBits)) σ H false := fun H1 e1 Q q =>
  em_sorts (PO := PBits i) h8 hi (errAt_grow e1 he) (fun p H' _ _ hp => ⟨p, rfl, hp⟩) H1 (Ex.refl H1) _ fun x H2 e2 ⟨p, ex, hp⟩ =>
    em_bits (PO := PBits i) h10 h6 (fun p H' _ _ hp => ⟨p, rfl, hp⟩) H2 (Ex.refl H2) _ fun y H3 e3 ⟨r, ey, hr⟩ => by
      subst ex ey
      rw [bitsOf_eq] at hp hr
      refine ⟨bitsD (bitB i), bitsD (bitB i), .lst (SqL.of (e3 p _ hp)) (dp_bits _), .lst (SqL.of hr) (dp_bits _), shaped_bits _, shaped_bits _, false, ?_, q H3 (ex_tr e2 e3)⟩
      rw [SeqAt.eqv_refl _ (canLay_bits _).1]
      rfl
/-! ### the two isinstance tests -/
abbrev tIsS (K : PySem.W.Frag) (S : Addr) : TE := tCB (rIsX K) (tCons (tVar 8) (tCons (tC (.ref S)) tNil))
abbrev tIsV (K : PySem.W.Frag) : TE := tCB (rIsX K) (tCons (tVar 8) (tCons (tC (.ty "ValueError")) tNil))
theorem em_isS (T : ErrTab K cl S) {i : Nat} {e : Addr} (hi : i < 24) (h8 : σ[8]? = some (some (.ref e))) (he : ErrAt H e (cl i)) : EvM (tIsS K S) σ H (fun v _ => v = .bl true) :=
  em_isx (T.is i hi) he (.own S) (T.spark i hi) (em_var h8 fun _ _ => rfl) (em_c fun _ _ => rfl) fun _ _ => rfl
theorem em_isV (T : ErrTab K cl S) {i : Nat} {e : Addr} (hi : i < 24) (h8 : σ[8]? = some (some (.ref e))) (he : ErrAt H e (cl i)) : EvM (tIsV K) σ H (fun v _ => v = .bl true) :=
  em_isx (T.is i hi) he (.ty _) (T.val i hi) (em_var h8 fun _ _ => rfl) (em_c fun _ _ => rfl) fun _ _ => rfl
theorem ev_of {v : V} (h : EvM te σ H (fun u _ => u = v)) : Evl.Ev te σ H v := fun H1 e Q q => h H1 e Q fun u H2 e2 eu => by
  rw [eu]
  exact q H2 e2
theorem test_is (T : ErrTab K cl S) {i : Nat} {e : Addr} (hi : i < 24) (h8 : σ[8]? = some (some (.ref e))) (he : ErrAt H e (cl i)) : Evl.EvT (tOr (tNot (tB (tIsS K S))) (tNot (tB (tIsV K)))) σ H false :=
  Evl.et_or (a := false) (b := false) (Evl.et_not (a := true) (Evl.et_B (ev_of (em_isS T hi h8 he)))) fun _ => Evl.et_not (a := true) (Evl.et_B (ev_of (em_isV T hi h8 he)))
/-! ### the reprs -/
theorem em_repr {v : V} {d : PyData} (he : EvM te σ H (fun u _ => u = v)) (hD : Dat K H v d) (hf : d.showable = true ∧ d.shown.length ≤ sizeLine ∧ d.depth ≤ 60 ∧ PyData.strOk d.shown = true) : EvM (tCB (rRepr K) (tCons te tNil)) σ H (fun u _ => u = .str d.shown) := fun H1 e Q q =>
  he H1 e _ fun u H2 e2 eu => ⟨v, d, by rw [eu], dat_grow (ex_tr e e2) hD, hf.1, hf.2.1, hf.2.2.1, q _ H2 e2 rfl⟩
theorem em_ixT {ta tb : TE} {p : Addr} {xs : List V} {i : Nat} {v : V} (ha : EvM ta σ H (fun u _ => u = .ref p)) (hb : EvM tb σ H (fun u _ => u = .int (i : Int))) (hp : H p = some (.tup xs)) (hi : xs[i]? = some v) : EvM (tOp (rIxT K) ta tb) σ H (fun u _ => u = v) := fun H1 e Q q =>
  ha H1 e _ fun u H2 e2 eu => hb H2 (ex_tr e e2) _ fun w H3 e3 ew => ⟨p, xs, (i : Int), v, eu, ew, SqT.of ((ex_tr (ex_tr e e2) e3) p _ hp), atI_nat hi, q _ H3 (ex_tr e2 e3) rfl⟩
abbrev tReprs (K : PySem.W.Frag) : TT := tTest (tOp (rNeD K) (tLst (tas [tCB (rRepr K) (tCons (tOp (rIxT K) (tVar 7) (c 2)) tNil), tCB (rRepr K) (tCons (tOp (rIxT K) (tVar 7) (c 3)) tNil), tCB (rRepr K) (tCons (tVar 4) tNil)])) (tOp rRep (tLst (tas [tVar 5])) (c 3)))
def strD (x : Str) : PyData := .list [.str x, .str x, .str x]
theorem str_lay {x : Str} (h : PyData.strOk x = true) : PyData.canLay0 (strD x) = true := by simp [strD, PyData.canLay0, PyData.canLayAll0, h]
theorem str_ok {x : Str} (h : PyData.strOk x = true) : SeqAt.shaped (strD x) = true ∧ PyData.canLay0 (strD x) = true := ⟨Bool.and_eq_true_iff.mpr ⟨str_lay h, decide_eq_true (by simp [strD, PyData.depth, PyData.depthAll])⟩, str_lay h⟩
theorem evt_op2 {r : R2} {ta tb : TE} {P P' : VP} {b : Bool} (ha : EvM ta σ H P) (hb : ∀ H1, Ex H H1 → EvM tb σ H1 P') (k : ∀ x y H2 H3, Ex H H2 → P x H2 → Ex H2 H3 → P' y H3 → ∀ Q : VK, (∀ H4, Ex H3 H4 → Q (.bl b) H4) → r x y H3 Q) :
    Evl.EvT (tTest (tOp r ta tb)) σ H b := fun H1 e Q q => ha H1 e _ fun x H2 e2 px => hb H2 (ex_tr e e2) H2 (Ex.refl H2) _ fun y H3 e3 py =>
    k x y H2 H3 (ex_tr e e2) px e3 py _ fun H4 e4 => ⟨b, rfl, q H4 (ex_tr (ex_tr e2 e3) e4)⟩
theorem allP3 {P Q R : VP} {vs : List V} (h : AllP H [P, Q, R] vs) : ∃ x y z, vs = [x, y, z] ∧ P x H ∧ Q y H ∧ R z H := by
  cases h with
  | cons h1 h2 =>
    obtain ⟨z, u, rfl, h5, h6⟩ := allP2 h2
    exact ⟨_, _, _, rfl, h1, h5, h6⟩
theorem test_reprs {v : V} {d : PyData} {p : Addr} {a b : V} (h4 : σ[4]? = some (some v)) (h5 : σ[5]? = some (some (.str d.shown))) (h7 : σ[7]? = some (some (.ref p))) (hp : H p = some (.tup [a, b, v, v])) (hD : Dat K H v d) (hf : d.showable = true ∧ d.shown.length ≤ sizeLine ∧ d.depth ≤ 60 ∧ PyData.strOk d.shown = true) :
    Evl.EvT (tReprs K) σ H false := by
  have g3 : GrowsAll [fun u _ => u = V.str d.shown, fun u _ => u = V.str d.shown, fun u _ => u = V.str d.shown] := .cons grows_eq (.cons grows_eq (.cons grows_eq .nil))
  refine evt_op2 (P := PL [fun u _ => u = V.str d.shown, fun u _ => u = V.str d.shown, fun u _ => u = V.str d.shown])
    (em_PL g3 (ems_cons grows_eq (em_repr (em_ixT (i := 2) (em_var h7 fun _ _ => rfl) em_ci hp rfl) hD hf) (ems_cons grows_eq (em_repr (em_ixT (i := 3) (em_var h7 fun _ _ => rfl) em_ci hp rfl) hD hf) (ems_cons grows_eq (em_repr (em_var h4 fun _ _ => rfl) hD hf) ems_nil))) (by show 3 ≤ 1000; decide))
    (P' := fun y H' => ∃ z, y = .ref z ∧ H' z = some (.lst [V.str d.shown, V.str d.shown, V.str d.shown])) (fun H1 _ => fun H2 e2 Q q => ?_) fun x y H2 H3 _ ⟨l, xs, ex, hl, hx⟩ e3 ⟨z, ey, hz⟩ Q q => ?_
  · refine em_PL (Ps := [fun u _ => u = V.str d.shown]) (.cons grows_eq .nil) (ems_cons grows_eq (em_var h5 fun _ _ => rfl) ems_nil) (by show 1 ≤ 1000; decide) H2 (Ex.refl H2) _ fun y H3 e3 ⟨r, ys, ey, hr, hy⟩ => ?_
    cases hy with
    | cons h1 h2 =>
      cases h2
      subst h1 ey
      exact ⟨r, 3, _, rfl, rfl, hr, by decide, by decide, by show 1 * 3 ≤ sizeLine; decide, fun z hz => q _ _ (ex_tr e3 (Ex.new hz)) ⟨z, rfl, upd_same⟩⟩
  · obtain ⟨x1, x2, x3, rfl, rfl, rfl, rfl⟩ := allP3 hx
    subst ex ey
    have da : ∀ H' : Hp, DpAll K H' [.str d.shown, .str d.shown, .str d.shown] [.str d.shown, .str d.shown, .str d.shown] := fun H' => .cons (.str _) (.cons (.str _) (.cons (.str _) .nil))
    refine ⟨strD d.shown, strD d.shown, .lst (SqL.of (e3 l _ hl)) (da _), .lst (SqL.of hz) (da _), (str_ok hf.2.2.2).1, (str_ok hf.2.2.2).1, ?_⟩
    rw [SeqAt.eqv_refl _ (str_ok hf.2.2.2).2]
    exact q H3 (Ex.refl H3)
end
end Tp

set_option maxHeartbeats 400000
namespace Tp
open PySem PySem.Spec PyProof.Rows L2
abbrev rMax2 : List V → Hp → VK → Prop := fun xs H Q => ∃ i j, xs = [V.int i, V.int j] ∧ Q (V.int (if j > i then j else i)) H
abbrev rMin2 : List V → Hp → VK → Prop := fun xs H Q => ∃ i j, xs = [V.int i, V.int j] ∧ Q (V.int (if j < i then j else i)) H
abbrev NLaw : List Str := ["script", "start", "tape", "turn", "thing", "seen", "at", "row", "error", "bare", "k"]
abbrev tF : TS := tRet (bl false)
abbrev tErrLoop (K : PySem.W.Frag) (cl : Nat → Addr) (S : Addr) : TS :=
  tSeq (tIfS (tOr (tNot (tB (tIsS K S))) (tNot (tB (tIsV K)))) tF tNext)
    (tIfS (tTest (tOp (rNeD K) (tCall (spSorts cl) [] E0 (tCons (tVar 8) tNil)) tBits)) tF tNext)
abbrev tRowLoop (K : PySem.W.Frag) (cl : Nat → Addr) (S : Addr) : TS :=
  tSeq (tFor (iTup K (tSl (rSlT K) (tVar 7) tNoPart (tPart (c 2)))) (gName 8) (tErrLoop K cl S)) (tIfS (tReprs K) tF tNext)
abbrev gAtRow (K : PySem.W.Frag) : TG := gTup K 2 (gCons (gName 6) (gCons (gName 7) gNil))
abbrev tTurn (K : PySem.W.Frag) (cl : Nat → Addr) (S : Addr) : TS :=
  tSeq (tAsg (tCall (spAny K) [] E0 (tCons (tVar 2) tNil)) (gName 4))
  (tSeq (tAsg (tCB (rRepr K) (tCons (tVar 4) tNil)) (gName 5))
  (tFor (iEnum K (tCons (tCall (spRows cl 18) [] E0 (tCons (tVar 4) tNil)) tNil)) (gAtRow K) (tRowLoop K cl S)))
abbrev tStart (K : PySem.W.Frag) (cl : Nat → Addr) (S : Addr) : TS :=
  tSeq (tAsg (tCall (spTape K) [] E0 (tCons (tVar 0) (tCons (tVar 1) tNil))) (gName 2)) (tFor (iRng1 (tCons (c 3) tNil)) (gName 3) (tTurn K cl S))
abbrev tCount (K : PySem.W.Frag) : TE := tCB rMax2 (tCons (c 1) (tCons (tCB rMin2 (tCons (c 2) (tCons (tCB (rLen K) (tCons (tVar 0) tNil)) tNil))) tNil))
abbrev tBare (cl : Nat → Addr) : TE := tLst (tas [tErr0 (cl 18), tErr0 (cl 19), tErr0 (cl 20), tErr0 (cl 21), tErr0 (cl 22), tErr0 (cl 23)])
abbrev tAllIs (K : PySem.W.Frag) (S : Addr) : TE := tLc (iList K (tVar 9)) (gName 8) tYes (tAndV (tIsS K S) (tIsV K)) [8]
abbrev tAllSorts (K : PySem.W.Frag) (cl : Nat → Addr) : TE := tLc (iList K (tVar 9)) (gName 8) tYes (tCall (spSorts cl) [] E0 (tCons (tVar 8) tNil)) [8]
abbrev tAllBits : TE := tLc (iRng2 (tCons (c 18) (tCons (c 24) tNil))) (gName 6) tYes tBits [6]
def t_law (K : PySem.W.Frag) (cl : Nat → Addr) (S : Addr) : TS :=
  tSeq (tFor (iRng1 (tCons (tCount K) tNil)) (gName 1) (tStart K cl S))
  (tSeq (tAsg (tBare cl) (gName 9))
  (tSeq (tIfS (tTest (tOp (rIn K false) (bl false) (tAllIs K S))) tF tNext)
  (tRet (tOp (rEqD K) (tAllSorts K cl) tAllBits))))
def spLaw (K : PySem.W.Frag) : Sp := fun vs H Q _ => ∃ (a : Addr) (ns : List Int), vs = [.ref a] ∧ Scr K H a ns ∧ ∀ H', Q (.bl true) H'
section
variable {K : PySem.W.Frag} {cl : Nat → Addr} {S : Addr} {H : Hp} {D : Ends}
theorem no_if {tt : TT} {σ : L2.St} {t u : TS} {P : Hp → Prop} (h : Evl.EvT tt σ H false) (k : ∀ H1, Ex H H1 → u D σ H1) : tIfS tt t u D σ H := h H (Ex.refl H) _ fun H1 e => iteF (k H1 e)
theorem q_noif {tt : TT} {σ : L2.St} {t tz : TS} (h : Evl.EvT tt σ H false) (k : ∀ H1, Ex H H1 → tz D σ H1) : tSeq (tIfS tt t tNext) tz D σ H := h H (Ex.refl H) _ fun H1 e => iteF (k H1 e)
theorem s_noif {tt : TT} {σ : L2.St} {t : TS} (h : Evl.EvT tt σ H false) (k : ∀ H1, Ex H H1 → D.nx σ H1) : tIfS tt t tNext D σ H := h H (Ex.refl H) _ fun H1 e => iteF (k H1 e)
/-- one error of one row -/
theorem err_step (T : ErrTab K cl S) {i : Nat} {e : Addr} {x0 x1 x2 x3 x4 x5 x7 x9 x10 : Option V} (hi : i < 24) (he : ErrAt H e (cl i))
    (k : ∀ H1, Ex H H1 → D.nx [x0, x1, x2, x3, x4, x5, some (.int (i : Int)), x7, some (.ref e), x9, x10] H1) : tErrLoop K cl S D [x0, x1, x2, x3, x4, x5, some (.int (i : Int)), x7, some (.ref e), x9, x10] H := by
  refine q_noif (test_is T hi rfl he) fun H1 e1 => ?_
  exact s_noif (test_sorts (i := i) (by show 10 < 11; decide) rfl rfl hi (errAt_grow e1 he)) fun H2 e2 => k H2 (ex_tr e1 e2)
/-- one row -/
theorem row_step (T : ErrTab K cl S) {i : Nat} {q a b : Addr} {v : V} {d : PyData} {x0 x1 x2 x3 x8 x9 x10 : Option V} (hi : i < 24) (hq : H q = some (.tup [.ref a, .ref b, v, v])) (ha : ErrAt H a (cl i)) (hb : ErrAt H b (cl i)) (hD : Dat K H v d)
    (hf : d.showable = true ∧ d.shown.length ≤ sizeLine ∧ d.depth ≤ 60 ∧ PyData.strOk d.shown = true)
    (k : ∀ H1 y, Ex H H1 → D.nx [x0, x1, x2, x3, some v, some (.str d.shown), some (.int (i : Int)), some (.ref q), y, x9, x10] H1) :
    tRowLoop K cl S D [x0, x1, x2, x3, some v, some (.str d.shown), some (.int (i : Int)), some (.ref q), x8, x9, x10] H := by
  refine ⟨_, rfl, 2, rfl, q, _, rfl, SqT.of hq, (by show ¬ (HT.sIx 4 0 none = 0 ∧ HT.sIx 4 4 (some 2) = 4); decide), fun p hp => ?_⟩
  have n := Ex.new (o := .tup (cutV [.ref a, .ref b, v, v] none (some 2))) hp
  have hcut : cutV [V.ref a, V.ref b, v, v] none (some 2) = [V.ref a, V.ref b] := rfl
  refine ⟨p, rfl, ⟨_, SqT.of upd_same⟩, for_tup (K := K) (a := p) (xs := [.ref a, .ref b])
    (fun j σ H' => ∃ y, σ = [x0, x1, x2, x3, some v, some (.str d.shown), some (.int (i : Int)), some (.ref q), y, x9, x10] ∧ Ex (upd H p (.tup (cutV [.ref a, .ref b, v, v] none (some 2)))) H')
    ⟨x8, rfl, Ex.refl _⟩ (fun j σ H' _ ⟨_, _, e⟩ => SqT.of (by rw [e p _ upd_same, hcut])) ?_ ?_⟩
  · rintro j x σ H' hj ⟨y, rfl, e⟩
    have eH := ex_tr n e
    have hx : ∃ z, x = .ref z ∧ ErrAt H z (cl i) := by
      match j, hj with
      | 0, hj => exact ⟨a, (Option.some.inj hj).symm, ha⟩
      | 1, hj => exact ⟨b, (Option.some.inj hj).symm, hb⟩
      | n + 2, hj => simp at hj
    obtain ⟨z, rfl, hz⟩ := hx
    exact err_step T hi (errAt_grow eH hz) fun H1 e1 => ⟨_, rfl, ex_tr e e1⟩
  · rintro σ H' ⟨y, rfl, e⟩
    have eH := ex_tr n e
    exact s_noif (test_reprs (σ := [x0, x1, x2, x3, some v, some (.str d.shown), some (.int (i : Int)), some (.ref q), y, x9, x10]) rfl rfl rfl (eH q _ hq) (dat_grow eH hD) hf) fun H1 e1 => k H1 y (ex_tr eH e1)
theorem sql_ex {a : Addr} {xs : List V} {H H' : Hp} (e : Ex H H') (h : SqL K H a xs) : SqL K H' a xs := Evl.ex_l e h
theorem sql_exB {a t : Addr} {xs : List V} {H H' : Hp} (ht : Tape H t) (e : ExB t H H') (h : SqL K H a xs) : SqL K H' a xs := by
  obtain ⟨d, m, h2, _⟩ := ht
  rcases h with (h | ⟨u, h⟩) | h
  · exact .inl (.inl (e _ _ (ne_of h h2 (by intro z; cases z)) h))
  · exact .inl (.inr ⟨u, e _ _ (ne_of h h2 (by intro z; cases z)) h⟩)
  · exact .inr h
theorem tape_ex {t : Addr} {H H' : Hp} (e : Ex H H') (h : Tape H t) : Tape H' t := by
  obtain ⟨d, m, h2, h3⟩ := h
  exact ⟨d, m, e _ _ h2, h3⟩
/-- one turn: a value, its errors -/
theorem turn_step (T : ErrTab K cl S) {t a : Addr} {ns : List Int} {x0 x1 x3 x4 x5 x6 x7 x8 x9 x10 : Option V} (hT : Tape H t) (hS : SqL K H a (ns.map V.int))
    (k : ∀ H1 y4 y5 y6 y7 y8, Tape H1 t → SqL K H1 a (ns.map V.int) → D.nx [x0, x1, some (.ref t), x3, y4, y5, y6, y7, y8, x9, x10] H1) :
    tTurn K cl S D [x0, x1, some (.ref t), x3, x4, x5, x6, x7, x8, x9, x10] H := by
  refine ⟨_, rfl, t, rfl, hT, fun v d H1 hd hD hT1 e1 => ?_⟩
  have hf := any_ok hd
  have hS1 := sql_exB hT e1 hS
  refine ⟨_, rfl, v, d, rfl, hD, hf.1, hf.2.1, hf.2.2.1, ?_⟩
  refine ⟨_, rfl, v, rfl, fun p xs H2 hn e2 hp hall => ?_⟩
  have e12 : Ex H1 H2 := ex_tr e2 ex_del
  have hl : xs.length = 18 := by
    rw [hall.len]
    unfold rowsP
    rw [List.length_map, List.length_range]
  refine ⟨p, xs, rfl, SqL.of hp, for_it (walk_enum (K := K) (a := p) (xs := xs))
    (fun i σ H' => ∃ y6 y7 y8, σ = [x0, x1, some (.ref t), x3, some v, some (.str d.shown), y6, y7, y8, x9, x10] ∧ Ex H2 H')
    ⟨x6, x7, x8, rfl, Ex.refl _⟩ (fun i σ H' _ ⟨_, _, _, _, e⟩ => SqL.of (e p _ hp)) ?_ ?_⟩
  · rintro i x σ H' H'' hi ⟨y6, y7, y8, rfl, e⟩ ⟨Tt, z, w, rfl, hTt, rfl, hz, hw⟩
    cases hz
    have n := Ex.new (o := .tup [.int ((i : Nat) : Int), w]) hTt
    have e3 := ex_tr e n
    obtain ⟨P, hP, pw⟩ := hall.get hw
    have hP' : P = PRow (cl i) v := by
      unfold rowsP at hP
      rw [List.getElem?_map, List.getElem?_range (by omega)] at hP
      exact (Option.some.inj hP).symm
    subst hP'
    obtain ⟨q, a1, b1, rfl, hq, ha, hb⟩ := pw
    have ed : Ex (delH H2 p) (upd H' Tt (.tup [.int ((i : Nat) : Int), .ref q])) := ex_tr ex_del e3
    refine ⟨Tt, _, rfl, SqT.of upd_same, rfl, _, _, rfl, _, _, rfl, rfl, ?_⟩
    exact row_step T (by omega) (ed q _ hq) (errAt_grow ed ha) (errAt_grow ed hb) (dat_grow (ex_tr e12 e3) hD) hf fun H1 y e4 => ⟨_, _, y, rfl, ex_tr e3 e4⟩
  · rintro σ H' ⟨y6, y7, y8, rfl, e⟩
    exact k H' _ _ y6 y7 y8 (tape_ex (ex_tr e12 e) hT1) (sql_ex (ex_tr e12 e) hS1)
theorem start_step (T : ErrTab K cl S) {a : Addr} {ns : List Int} {j : Nat} {x2 x3 x4 x5 x6 x7 x8 x9 x10 : Option V} (hS : Scr K H a ns) (hj : j ≤ 5)
    (k : ∀ H1 y2 y3 y4 y5 y6 y7 y8, Scr K H1 a ns → D.nx [some (.ref a), some (.int (j : Int)), y2, y3, y4, y5, y6, y7, y8, x9, x10] H1) :
    tStart K cl S D [some (.ref a), some (.int (j : Int)), x2, x3, x4, x5, x6, x7, x8, x9, x10] H := by
  refine ⟨_, rfl, _, rfl, a, ns, j, rfl, hS, hj, fun t d m ht hr => ?_⟩
  have n := Ex.new (o := .dK (tapeKv d m)) ht
  refine ⟨3, rfl, by decide, by decide, for_range (lo := 0) (n := 3)
    (fun i σ H' => ∃ y3 y4 y5 y6 y7 y8, σ = [some (.ref a), some (.int (j : Int)), some (.ref t), y3, y4, y5, y6, y7, y8, x9, x10] ∧ Tape H' t ∧ SqL K H' a (ns.map V.int))
    ⟨x3, x4, x5, x6, x7, x8, rfl, ⟨d, m, upd_same, hr⟩, sql_ex n hS.1⟩ ?_ ?_⟩
  · rintro i σ H' hi ⟨y3, y4, y5, y6, y7, y8, rfl, hT, hS'⟩
    exact turn_step T hT hS' fun H1 z4 z5 z6 z7 z8 hT1 hS1 => ⟨_, z4, z5, z6, z7, z8, rfl, hT1, hS1⟩
  · rintro σ H' ⟨y3, y4, y5, y6, y7, y8, rfl, hT, hS'⟩
    exact k H' _ y3 y4 y5 y6 y7 y8 ⟨hS', hS.2⟩
/-! ### the errors without a value -/
def PBare (C : Addr) : VP := fun x H => ∃ a, x = .ref a ∧ H a = some (ExO (.ref C) a)
theorem grows_bare {C : Addr} : Grows (PBare C) := fun _ _ _ e ⟨a, h1, h2⟩ => ⟨a, h1, e _ _ h2⟩
theorem em_bare {C : Addr} {σ : L2.St} : EvM (tErr0 C) σ H (PBare C) := em_err0 fun a _ _ h => ⟨a, rfl, h⟩
def bareP (cl : Nat → Addr) : List VP := (List.range 6).map fun i => PBare (cl (18 + i))
theorem gBare : GrowsAll (bareP cl) := GrowsAll.map (fun _ => grows_bare) _
theorem em_bares {σ : L2.St} : EvM (tBare cl) σ H (PL (bareP cl)) :=
  em_PL (Ps := bareP cl) gBare (ems_cons grows_bare em_bare (ems_cons grows_bare em_bare (ems_cons grows_bare em_bare (ems_cons grows_bare em_bare (ems_cons grows_bare em_bare (ems_cons grows_bare em_bare ems_nil)))))) (by show 6 ≤ 1000; decide)
theorem bare_at {i : Nat} {P : VP} (h : (bareP cl)[i]? = some P) : i < 6 ∧ P = PBare (cl (18 + i)) := by
  unfold bareP at h
  rw [List.getElem?_map] at h
  obtain ⟨j, hj, rfl⟩ := Option.map_eq_some_iff.mp h
  have hi : i < 6 := by
    have := (List.getElem?_eq_some_iff.mp hj).1
    rw [List.length_range] at this
    exact this
  rw [List.getElem?_range hi] at hj
  cases hj
  exact ⟨hi, rfl⟩
end
end Tp

set_option maxHeartbeats 400000
namespace Tp
open PySem PySem.Spec PyProof.Rows L2
section
variable {K : PySem.W.Frag} {cl : Nat → Addr} {S : Addr} {H : Hp} {D : Ends} {σ : L2.St}
theorem wipe8 (σ : L2.St) (x : V) : wipe ((wipe σ [8]).set 8 (some x)) [8] = wipe σ [8] := wipe1 σ 8 x
theorem at8 {σ : L2.St} (h : 8 < σ.length) (x : V) : ((wipe σ [8]).set 8 (some x))[8]? = some (some x) := by
  rw [List.getElem?_set_self]
  show 8 < (σ.set 8 none).length
  rw [List.length_set]
  exact h
theorem test_all (T : ErrTab K cl S) {q : Addr} {xs : List V} (h8 : 8 < σ.length) (h9 : σ[9]? = some (some (.ref q))) (hq : H q = some (.lst xs)) (hx : AllP H (bareP cl) xs) :
    Evl.EvT (tTest (tOp (rIn K false) (bl false) (tAllIs K S))) σ H false := by
  refine evt_op2 (P := fun v _ => v = .bl false) (P' := PL ((List.range 6).map fun _ => fun v _ => v = V.bl true)) (em_c fun _ _ => rfl) (fun H1 e1 => ?_) fun x y H2 H3 _ hx e3 ⟨p, ys, ey, hp, hy⟩ Q k => ?_
  · refine em_lc (Ps := bareP cl) (Rs := (List.range 6).map fun _ => fun v _ => v = V.bl true) gBare (GrowsAll.map (fun _ => grows_eq) _) (by unfold bareP; rw [List.length_map, List.length_map]) (by unfold bareP; rw [List.length_map]; decide)
      (em_var h9 fun H' e => ⟨q, xs, rfl, (ex_tr e1 e) q _ hq, hx.grow (ex_tr e1 e) gBare⟩) (fun D i P R z H' hD hE hP hR pz => ?_) fun D ys H' hn hE hp ha => ⟨D, ys, rfl, hp, ha.grow ex_del (GrowsAll.map (fun _ => grows_eq) _)⟩
    obtain ⟨hi, rfl⟩ := bare_at hP
    obtain ⟨e, rfl, he⟩ := pz
    rw [List.getElem?_map, List.getElem?_range hi] at hR
    obtain rfl := (Option.some.inj hR).symm
    refine ⟨(wipe σ [8]).set 8 (some (.ref e)), fun Q k => k, wipe8 σ _, ?_⟩
    have hat : ErrAt H' e (cl (18 + i)) := .inr (ex_del e _ he)
    have a8 := at8 h8 (.ref e)
    exact fun H2 e2 Q k => em_isS T (by omega) a8 (errAt_grow e2 hat) H2 (Ex.refl H2) _ fun x H3 e3 ex => ⟨true, ex, iteT (em_isV T (by omega) a8 (errAt_grow (ex_tr e2 e3) hat) H3 (Ex.refl H3) _ fun y H4 e4 ey => k y H4 (ex_tr e3 e4) ey)⟩
  · subst hx ey
    have hys : ys = List.replicate 6 (V.bl true) := by
      have : ∀ {l : List Nat} {ys : List V}, AllP H3 (l.map fun _ => (fun v _ => v = V.bl true)) ys → ys = List.replicate l.length (V.bl true) := by
        intro l
        induction l with
        | nil => intro ys h; cases h; rfl
        | cons a l ih =>
          intro ys h
          cases h with
          | cons h1 h2 => rw [h1, ih h2]; rfl
      have q := this hy
      rw [List.length_range] at q
      exact q
    subst hys
    exact ⟨p, _, rfl, .inl (SqL.of hp), rfl, by decide, k H3 (Ex.refl H3)⟩
def rowsD : PyData := .list ((List.range 6).map fun i => bitsD (bitB (18 + i)))
theorem dp_PBits {i : Nat} {x : V} (h : PBits i x H) : Dp K H x (bitsD (bitB i)) := by
  obtain ⟨p, rfl, hp⟩ := h
  rw [bitsOf_eq] at hp
  exact .lst (SqL.of hp) (dp_bits _)
theorem dp_rows {xs : List V} (h : AllP H ((List.range 6).map fun i => PBits (18 + i)) xs) : DpAll K H xs ((List.range 6).map fun i => bitsD (bitB (18 + i))) := by
  have : ∀ {l : List Nat} {xs : List V}, AllP H (l.map fun i => PBits (18 + i)) xs → DpAll K H xs (l.map fun i => bitsD (bitB (18 + i))) := by
    intro l
    induction l with
    | nil => intro xs h; cases h; exact .nil
    | cons a l ih =>
      intro xs h
      cases h with
      | cons h1 h2 => exact .cons (dp_PBits h1) (ih h2)
  exact this h
theorem rows_lay : PyData.canLay0 rowsD = true ∧ SeqAt.shaped rowsD = true := by
  have h : ∀ l : List Nat, PyData.canLayAll0 (l.map fun i => bitsD (bitB (18 + i))) = true ∧ PyData.depthAll (l.map fun i => bitsD (bitB (18 + i))) ≤ 1 := by
    intro l
    induction l with
    | nil => exact ⟨rfl, Nat.zero_le _⟩
    | cons a l ih =>
      obtain ⟨c1, c2⟩ := canLay_bits (bitB (18 + a))
      simp only [List.map_cons, PyData.canLayAll0, PyData.depthAll, c1, ih.1, Bool.and_self]
      exact ⟨trivial, Nat.max_le.mpr ⟨c2, ih.2⟩⟩
  have c : PyData.canLay0 rowsD = true := by
    unfold rowsD
    simp only [PyData.canLay0]
    exact (h _).1
  refine ⟨c, Bool.and_eq_true_iff.mpr ⟨c, decide_eq_true ?_⟩⟩
  unfold rowsD
  simp only [PyData.depth]
  have := (h (List.range 6)).2
  omega
theorem ret_op2 {r : R2} {ta tb : TE} {P P' : VP} (ha : EvM ta σ H P) (hb : EvM tb σ H P') (k : ∀ x y H2 H3, Ex H H2 → P x H2 → Ex H2 H3 → P' y H3 → r x y H3 D.rt) : tRet (tOp r ta tb) D σ H :=
  ha H (Ex.refl H) _ fun x H2 e2 px => em_mono hb e2 H2 (Ex.refl H2) _ fun y H3 e3 py => k x y H2 H3 e2 px e3 py
theorem last_step (T : ErrTab K cl S) {q : Addr} {xs : List V} (h8 : 10 < σ.length) (h9 : σ[9]? = some (some (.ref q))) (hq : H q = some (.lst xs)) (hx : AllP H (bareP cl) xs) (k : ∀ H', D.rt (.bl true) H') :
    tRet (tOp (rEqD K) (tAllSorts K cl) tAllBits) D σ H := by
  have gB : GrowsAll ((List.range 6).map fun i => PBits (18 + i)) := GrowsAll.map (fun _ => grows_bits) _
  have left : EvM (tAllSorts K cl) σ H (PL ((List.range 6).map fun i => PBits (18 + i))) := by
    refine em_lc (Ps := bareP cl) (Rs := (List.range 6).map fun i => PBits (18 + i)) gBare gB (by unfold bareP; rw [List.length_map, List.length_map]) (by unfold bareP; rw [List.length_map]; decide)
      (em_var h9 fun H' e => ⟨q, xs, rfl, e q _ hq, hx.grow e gBare⟩) (fun D i P R z H' hD hE hP hR pz => ?_) fun D ys H' hn hE hp ha => ⟨D, ys, rfl, hp, ha.grow ex_del gB⟩
    obtain ⟨hi, rfl⟩ := bare_at hP
    obtain ⟨e, rfl, he⟩ := pz
    rw [List.getElem?_map, List.getElem?_range hi] at hR
    obtain rfl := (Option.some.inj hR).symm
    refine ⟨(wipe σ [8]).set 8 (some (.ref e)), fun Q k => k, wipe8 σ _, em_sorts (at8 (by omega) _) (i := 18 + i) (by omega) (.inr (ex_del e _ he)) fun p H2 hn e2 hp => ⟨p, rfl, ?_⟩⟩
    rw [delH_ne (fun z => hD (by rw [← z]; exact hn))]
    exact hp
  have right : EvM tAllBits σ H (PL ((List.range 6).map fun i => PBits (18 + i))) := by
    refine em_lcW (lo := 18) (n := 6) (R := fun i => PBits (18 + i)) (by decide) (fun _ => grows_bits) (rng2 (a := 18) (b := 24) (by decide) (by decide)) (wipe1 σ 6) (fun D i H1 hD hi => ?_) fun D ys H' hn he hp ha => ⟨D, ys, rfl, hp, ha.grow ex_del gB⟩
    have e6 : ((wipe σ [6]).set 6 (some (.int (18 + (i : Int)))))[6]? = some (some (.int ((18 + i : Nat) : Int))) := by
      rw [List.getElem?_set_self (by show 6 < (σ.set 6 none).length; rw [List.length_set]; omega)]
      congr 3
    refine em_bits (i := 18 + i) (by rw [List.length_set]; show 10 < (σ.set 6 none).length; rw [List.length_set]; exact h8) e6 fun p H2 hn _ hp => ⟨p, rfl, ?_⟩
    rw [delH_ne (fun z => hD (by rw [← z]; exact hn))]
    exact hp
  refine ret_op2 left right fun x y H1 H2 e1 ⟨p, ys, ex, hp, hy⟩ e2 ⟨r, zs, ey, hr, hz⟩ => ?_
  subst ex ey
  refine ⟨rowsD, rowsD, .lst (SqL.of (e2 p _ hp)) (dp_rows (hy.grow e2 gB)), .lst (SqL.of hr) (dp_rows hz), rows_lay.2, rows_lay.2, ?_⟩
  rw [SeqAt.eqv_refl _ rows_lay.1]
  exact k H2
theorem pure_law (T : ErrTab K cl S) (vs : List V) (H : Hp) (Q : VK) (E : XK) (h : spLaw K vs H Q E) : t_law K cl S { nx := fun _ H' => Q .non H', rt := Q } (start NLaw vs) H := by
  obtain ⟨a, ns, rfl, hS, k⟩ := h
  unfold t_law
  refine ⟨_, rfl, a, _, rfl, .inl hS.1, 2, _, rfl, 1, _, rfl, _, rfl, ?_, ?_, for_range (lo := 0)
    (fun i σ H' => ∃ y1 y2 y3 y4 y5 y6 y7 y8, σ = [some (.ref a), y1, y2, y3, y4, y5, y6, y7, y8, none, none] ∧ Scr K H' a ns)
    ⟨none, none, none, none, none, none, none, none, rfl, hS⟩ ?_ ?_⟩
  · split <;> split <;> omega
  · split <;> split <;> omega
  · rintro i σ H' hi ⟨y1, y2, y3, y4, y5, y6, y7, y8, rfl, hS'⟩
    have hi5 : i ≤ 5 := by
      split at hi <;> split at hi <;> omega
    show tStart K cl S _ [some (.ref a), some (.int (0 + (i : Int))), y2, y3, y4, y5, y6, y7, y8, none, none] H'
    rw [Int.zero_add]
    exact start_step T hS' hi5 fun H1 z2 z3 z4 z5 z6 z7 z8 hS1 => ⟨_, z2, z3, z4, z5, z6, z7, z8, rfl, hS1⟩
  · rintro σ H' ⟨y1, y2, y3, y4, y5, y6, y7, y8, rfl, hS'⟩
    refine q_asg (P := PL (bareP cl)) em_bares fun v H1 e1 ⟨q, xs, ev, hq, hx⟩ => ?_
    subst ev
    refine q_noif (test_all T (σ := [some (.ref a), y1, y2, y3, y4, y5, y6, y7, y8, some (.ref q), none]) (by show 8 < 11; decide) rfl hq hx) fun H2 e2 => ?_
    exact last_step T (σ := [some (.ref a), y1, y2, y3, y4, y5, y6, y7, y8, some (.ref q), none]) (by show 10 < 11; decide) rfl (e2 q _ hq) (hx.grow e2 gBare) k
end
end Tp

set_option maxHeartbeats 4000000
/-! Defs that ask for reprs: they are promised where no repr runs around. -/
namespace Tp
open PySem PySem.Spec PyProof.Rows L2
/-- no repr runs around -/
def Calm (A : Around) : Prop := A.guards = some []
theorem Calm.deeper {A : Around} {env : Env} (h : Calm A) : Calm (A.deeper env) := h
structure FnG (P : Program) (w : World) (K : PySem.W.Frag) (mg : Str → Option Value) (base : Heap) (k : Nat) (f : Addr) (fd : FuncData) (ps : List Str) (sp : Sp) : Prop where
  len : ∀ vs H Q E, sp vs H Q E → vs.length = ps.length
  run : ∀ (A : Around) (out : List Env) (s : Shared) (H : Hp) (args : Args) (us : List Value) (vs : List V) (Q : VK) (E : XK), Calm A → Room k A → Env0 P w K mg base A out s H →
    BindsTo s fd args (ps.zip us) → Vals vs us → sp vs H Q E → codeAny (model P w) A (.call (.ref f) args) (CR CX0 out P w H s Q E) s
section
variable {P : Program} {w : World} {K : PySem.W.Frag} {mg : Str → Option Value} {base : Heap} {k : Nat} {f : Addr} {fd : FuncData} {N ps : List Str} {sp : Sp}
/-- a def by its body -/
theorem FnG.of {x qual : Str} {st : Stmt} (F : Fun K x qual st f fd) (S : FnScope N ps (defScope st)) (len : ∀ vs H Q E, sp vs H Q E → vs.length = ps.length)
    (body : ∀ (cdv : Value) (A : Around) (out : List Env) (s : Shared) (H : Hp) (vs : List V) (Q : VK) (E : XK), Calm A → Room k (A.deeper (envOfC qual (defScope st) s.heap.objs.size f cdv)) → sp vs H Q E →
      ∃ t, PSs (cxOf CX0 P w K mg base N qual (defScope st) f cdv A out s H E) (defBody st) t ∧ t { nx := fun _ H' => Q .non H', rt := Q } (start N vs) H) :
    FnG P w K mg base (k + 1) f fd ps sp := by
  obtain ⟨oc, od, kV, doc, pm, an, cd, ct, osl, rfl, lk, hcd⟩ := F.ex
  refine ⟨len, fun A out s H args us vs Q E hc hr e0 hb r hsp => ?_⟩
  have hl := len _ _ _ _ hsp
  have up : ∀ b o, base.get? b = some o → s.heap.get? b = some o := fun b o e => (e0.bs b o e).1
  have KX : K.In s.heap := e0.mod.kin.keeps up
  have lim : s.heap.NoLimit := e0.mod.nolimit.keeps up
  refine codeAny_call_function hr.depth (KX _ _ lk) rfl S.co S.gen rfl (PySem.W.codeRec_of KX hcd) (hb _ _ _ _ ?_)
  refine wpAny_newFunctionEnv_cells S.kind (fun y hy => ?_) fun env he s1 x => ?_
  · rcases S.par y.1 (List.of_mem_zip (a := y.1) (b := y.2) hy).1 with q | q
    · exact .inl q
    · exact .inr ⟨q, PySem.W.cellsFrom_some _ _ _ (.inl q)⟩
  · subst he
    refine ⟨lim.keeps x.toInCall.keep, codeAny_func ?_⟩
    obtain ⟨t, ht, hq⟩ := body cd A out s H vs Q E hc (hr.deeper _) hsp
    have I := inv_start (CX := CX0) (P := P) (w := w) (K := K) (mg := mg) (base := base) (N := N) (E := E) S hr.hd e0 hl r x
    refine wpAny_mono (ht.run [] s1 (start N vs) H _ I hq) (fun fl s' hs => ?_) fun e s' hs => hs
    cases fl with
    | brk =>
      obtain ⟨_, _, _, q⟩ := hs
      exact q.elim
    | cont =>
      obtain ⟨_, _, _, q⟩ := hs
      exact q.elim
    | next =>
      obtain ⟨σ', H', J, q⟩ := hs
      exact ⟨V.non, H', J.os, J.bare, J.base, J.hok, rfl, q⟩
    | ret u =>
      obtain ⟨v, σ', H', J, rv, q⟩ := hs
      exact ⟨v, H', J.os, J.bare, J.base, J.hok, rv, q⟩
end
/-- the law's own call -/
theorem callLaw {P : Program} {w : World} {K : PySem.W.Frag} {mg mb : Str → Option Value} {k : Nat} {fa a : Addr} {fd : FuncData} {x : Str} {sp : Sp} {st : Shared} {vs : List Value} {ns : List Int}
    (KX : K.In st.heap) (hns : st.heap.Ns mainGlobals mg) (hb : st.heap.Ns builtinsNs mb) (hbb : ∀ x : Str, x ≠ "__name__" → mb x = bootBuiltins x) (hlim : st.heap.NoLimit) (hg : st.gens = #[])
    (ha : st.heap.get? a = some { cls := .type "list", data := .seq vs.toArray }) (hi : IntsAre vs ns) (hl : ns.length ≤ sizeLine) (hr : Room k callerA)
    (F : ∀ base : Heap, K.In base → base.Ns mainGlobals mg → FnG P w K mg base k fa fd [x] sp) (hbind : ∀ (s : Shared) (u : Value), BindsTo s fd ⟨[u], []⟩ [(x, u)])
    (hsp : ∀ H : Hp, Only H → SqL K H a (ns.map V.int) → sp [.ref a] H (fun v _ => v = .bl true) E0) :
    codeAny (model P w) callerA (.call (.ref fa) ⟨[.ref a], []⟩) (fun r s' => r = .ok (.ret (.bool true)) ∧ OldK st.heap s'.heap ∧ s'.os = st.os ∧ AllBare s'.gens) st := by
  have go : ∀ H : Hp, Only H → SqL K H a (ns.map V.int) → HOk P w H st.heap → (∀ b u, H b = some u → b = a ∧ K.lookup a = none) →
      codeAny (model P w) callerA (.call (.ref fa) ⟨[.ref a], []⟩) (fun r s' => r = .ok (.ret (.bool true)) ∧ OldK st.heap s'.heap ∧ s'.os = st.os ∧ AllBare s'.gens) st := by
    intro H only sq hok lone
    have free : ∀ b, (∀ u, H b = some u → False) → H b = none := fun b z => by
      cases q : H b with
      | none => rfl
      | some u => exact (z u q).elim
    have low : ∀ {b : Addr} {o : Obj}, st.heap.get? b = some o → H b = none → (hidT st.heap H).get? b = some o := fun e n => hidT_get e n
    have names : ∀ {b : Addr} {m : Str → Option Value}, st.heap.Ns b m → (hidT st.heap H).Ns b m := fun {b m} n => by
      obtain ⟨o, es, ep, e, d, r⟩ := n
      refine ⟨o, es, ep, low e (free b fun u q => ?_), d, r⟩
      rw [(lone b u q).1, ha] at e
      cases e
      cases d
    have inn : K.In (hidT st.heap H) := fun b o e => low (KX b o e) (free b fun u q => by
      obtain ⟨e1, e2⟩ := lone b u q
      rw [e1, e2] at e
      cases e)
    have md : Mod K mg (hidT st.heap H) := by
      obtain ⟨mc, h1, h2⟩ := hlim
      exact ⟨inn, names hns, ⟨mb, names hb, hbb⟩, mc, names h1, h2⟩
    have no : ∀ b : Addr, b ∉ ([] : List Addr) := fun b z => by cases z
    have e0 : Env0 P w K mg (hidT st.heap H) callerA [] st H :=
      { frames := rfl, mod := md, bs := fun b o e => of_hidT e, bsz := Nat.le_of_eq (hidT_size _ _), funs := trivial, frf := fun b z => (no b z).elim, hok := hok, bare := .of_eq hg }
    have run := (F _ inn (names hns)).run callerA [] st H ⟨[.ref a], []⟩ [.ref a] [.ref a] _ _ rfl hr e0 (hbind st (.ref a)) (.cons rfl .nil) (hsp H only sq)
    refine codeAny_mono run fun r s' h => ?_
    cases r with
    | error e => exact h.elim
    | ok fl =>
      cases fl with
      | brk => exact h.elim
      | cont => exact h.elim
      | next => exact h.elim
      | ret u =>
        obtain ⟨v, H', hos, hbare, un, hok', rv, q⟩ := h
        have q' : v = V.bl true := q
        subst q'
        obtain rfl : u = Value.bool true := rv
        refine ⟨rfl, OldK.of_keep fun b o e => ?_, hos, hbare⟩
        rcases only b with z | ⟨ob, xs, z⟩
        · exact un.keep b o e z (no b) (no b)
        · have o1 := (hok b _ z).1
          have o2 := (hok' b _ (un.frzs b ob _ z)).1
          rw [e] at o1
          cases o1
          exact o2
  have rv := vals_ints hi
  cases hk : K.lookup a with
  | some o =>
    have e := KX a o hk
    rw [ha] at e
    cases e
    refine go (fun _ => none) (fun _ => .inl rfl) (.inr ⟨_, vs.toArray, _, hk, rfl, rfl, rfl, ?_, by simpa using rv⟩) (fun b u z => nomatch z) fun b u z => nomatch z
    rw [List.size_toArray, hi.length]
    exact hl
  | none =>
    let So : HO := .frz { cls := .type "list", data := .seq vs.toArray } (.lst (ns.map V.int))
    have at1 : ∀ b u, (if b = a then some So else none) = some u → b = a ∧ So = u := fun b u z => by
      by_cases e : b = a
      · rw [if_pos e] at z
        exact ⟨e, Option.some.inj z⟩
      · rw [if_neg e] at z
        cases z
    refine go (fun b => if b = a then some So else none) (fun b => ?_) (.inl (.inr ⟨_, if_pos rfl⟩)) (fun b u z => ?_) fun b u z => ⟨(at1 b u z).1, hk⟩
    · by_cases e : b = a
      · exact .inr ⟨_, _, if_pos e⟩
      · exact .inl (if_neg e)
    · obtain ⟨rfl, rfl⟩ := at1 b u z
      exact ⟨ha, by rw [List.length_map]; exact hl, vs, _, rv, ha⟩
/-- the goal that the head leaves -/
theorem walkLaw {l : PySem.W.OpenLaw} {n k : Nat} {q : Program} {loose : List Str} {XP : (Str → Option Value) → Heap → Prop} {YP : World → Heap → Prop} {d : DefRec} {K : Params → PySem.W.Frag} {x : Str}
    (hn : l.most = some n) (hn2 : n ≤ sizeLine) (hdf : d.params.defaults = []) (hr : Room k callerA) (hY : ∀ (w : World) (h : Heap), YP w h → (K w.params).In h) (sp : PySem.W.Frag → Sp)
    (F : ∀ (w : World) (mg : Str → Option Value) (fa : Addr) (h : Heap), (K w.params).In h → h.Ns mainGlobals mg → mg d.name = some (.ref fa) →
      ∃ fd : FuncData, (∀ (s : Shared) (u : Value), BindsTo s fd ⟨[u], []⟩ [(x, u)]) ∧ ∀ base : Heap, (K w.params).In base → base.Ns mainGlobals mg → FnG l.prog w (K w.params) mg base k fa fd [x] (sp (K w.params)))
    (hsp : ∀ (K : PySem.W.Frag) (H : Hp) (a : Addr) (ns : List Int), ns.length ≤ n → (∀ z ∈ ns, Builtin.Int.intBits z ≤ 1048576) → Only H → SqL K H a (ns.map V.int) → sp K [.ref a] H (fun v _ => v = .bl true) E0) :
    PySem.W.WalkO q loose XP YP l.row.toRowW d [] (fun f vs => PySem.call f vs) :=
  Att.attach_callB hn hdf fun w s₀ s₁ mg mb fa o pm cd doc a vs ns G Y ho hd hcd hmg hobj hints hlen hbits hg => by
    have KX := hY w _ Y
    obtain ⟨fd, hb, hF⟩ := F w mg fa _ KX G.T.g hmg
    exact callLaw KX G.T.g G.T.b G.T.builtins G.T.nolimit hg hobj hints (Nat.le_trans hlen hn2) hr hF hb fun H hO hS => hsp _ H a ns hlen hbits hO hS
end Tp

set_option maxHeartbeats 4000000
namespace K1
open PySem PySem.Spec PyProof.Rows L2 Tp
def top (i : Nat) : Stmt := PySem.Challenge.pw_sparkrows_k01_errors_made.main.body.getD i (.Pass ⟨0, 0, 0, 0⟩)
abbrev iBadWidth : Stmt := inClass (top 2) 0
abbrev iBadPairs : Stmt := inClass (top 3) 0
abbrev iBadColumns : Stmt := inClass (top 4) 0
abbrev iBadCell : Stmt := inClass (top 6) 0
abbrev iNoSeat : Stmt := inClass (top 9) 0
abbrev iBadSeats : Stmt := inClass (top 10) 0
abbrev iBadTable : Stmt := inClass (top 11) 0
abbrev iBadTimes : Stmt := inClass (top 13) 0
abbrev iNoWeb : Stmt := inClass (top 14) 0
abbrev iBadPrices : Stmt := inClass (top 17) 0
abbrev iBadSize : Stmt := inClass (top 18) 0
abbrev iCannotJoin : Stmt := inClass (top 20) 0
abbrev iIsIn : Stmt := inClass (top 21) 0
abbrev iNotIn : Stmt := inClass (top 22) 0
abbrev iBadNeed : Stmt := inClass (top 23) 0
abbrev iBadColumn : Stmt := inClass (top 5) 0
abbrev iTooShort : Stmt := inClass (top 8) 0
abbrev iBadLine : Stmt := inClass (top 25) 0
abbrev sTape : Stmt := top 27
abbrev sPick : Stmt := top 28
abbrev sOne : Stmt := top 29
abbrev sAny : Stmt := top 30
abbrev sValued : Stmt := top 31
abbrev sKept : Stmt := top 32
abbrev sSorts : Stmt := top 33
abbrev sLaw : Stmt := top 34
theorem qBadWidth : FnScope ["self", "value"] ["self", "value"] (defScope iBadWidth) := ⟨rfl, rfl, rfl, by decide +kernel, rfl, by decide +kernel, by decide +kernel⟩
theorem qBadPairs : FnScope ["self", "value"] ["self", "value"] (defScope iBadPairs) := ⟨rfl, rfl, rfl, by decide +kernel, rfl, by decide +kernel, by decide +kernel⟩
theorem qBadColumns : FnScope ["self", "value"] ["self", "value"] (defScope iBadColumns) := ⟨rfl, rfl, rfl, by decide +kernel, rfl, by decide +kernel, by decide +kernel⟩
theorem qBadCell : FnScope ["self", "value"] ["self", "value"] (defScope iBadCell) := ⟨rfl, rfl, rfl, by decide +kernel, rfl, by decide +kernel, by decide +kernel⟩
theorem qNoSeat : FnScope ["self", "value"] ["self", "value"] (defScope iNoSeat) := ⟨rfl, rfl, rfl, by decide +kernel, rfl, by decide +kernel, by decide +kernel⟩
theorem qBadSeats : FnScope ["self", "value"] ["self", "value"] (defScope iBadSeats) := ⟨rfl, rfl, rfl, by decide +kernel, rfl, by decide +kernel, by decide +kernel⟩
theorem qBadTable : FnScope ["self", "value"] ["self", "value"] (defScope iBadTable) := ⟨rfl, rfl, rfl, by decide +kernel, rfl, by decide +kernel, by decide +kernel⟩
theorem qBadTimes : FnScope ["self", "value"] ["self", "value"] (defScope iBadTimes) := ⟨rfl, rfl, rfl, by decide +kernel, rfl, by decide +kernel, by decide +kernel⟩
theorem qNoWeb : FnScope ["self", "value"] ["self", "value"] (defScope iNoWeb) := ⟨rfl, rfl, rfl, by decide +kernel, rfl, by decide +kernel, by decide +kernel⟩
theorem qBadPrices : FnScope ["self", "value"] ["self", "value"] (defScope iBadPrices) := ⟨rfl, rfl, rfl, by decide +kernel, rfl, by decide +kernel, by decide +kernel⟩
theorem qBadSize : FnScope ["self", "value"] ["self", "value"] (defScope iBadSize) := ⟨rfl, rfl, rfl, by decide +kernel, rfl, by decide +kernel, by decide +kernel⟩
theorem qCannotJoin : FnScope ["self", "value"] ["self", "value"] (defScope iCannotJoin) := ⟨rfl, rfl, rfl, by decide +kernel, rfl, by decide +kernel, by decide +kernel⟩
theorem qIsIn : FnScope ["self", "value"] ["self", "value"] (defScope iIsIn) := ⟨rfl, rfl, rfl, by decide +kernel, rfl, by decide +kernel, by decide +kernel⟩
theorem qNotIn : FnScope ["self", "value"] ["self", "value"] (defScope iNotIn) := ⟨rfl, rfl, rfl, by decide +kernel, rfl, by decide +kernel, by decide +kernel⟩
theorem qBadNeed : FnScope ["self", "value"] ["self", "value"] (defScope iBadNeed) := ⟨rfl, rfl, rfl, by decide +kernel, rfl, by decide +kernel, by decide +kernel⟩
theorem qBadColumn : FnScope ["self", "number"] ["self", "number"] (defScope iBadColumn) := ⟨rfl, rfl, rfl, by decide +kernel, rfl, by decide +kernel, by decide +kernel⟩
theorem qTooShort : FnScope ["self", "many"] ["self", "many"] (defScope iTooShort) := ⟨rfl, rfl, rfl, by decide +kernel, rfl, by decide +kernel, by decide +kernel⟩
theorem qBadLine : FnScope ["self", "line"] ["self", "line"] (defScope iBadLine) := ⟨rfl, rfl, rfl, by decide +kernel, rfl, by decide +kernel, by decide +kernel⟩
theorem qTape : FnScope NTape ["script", "start"] (defScope sTape) := ⟨rfl, rfl, rfl, by decide +kernel, rfl, by decide +kernel, by decide +kernel⟩
theorem qPick : FnScope NPick ["tape", "many_here"] (defScope sPick) := ⟨rfl, rfl, rfl, by decide +kernel, rfl, by decide +kernel, by decide +kernel⟩
theorem qOne : FnScope NOne ["tape", "things"] (defScope sOne) := ⟨rfl, rfl, rfl, by decide +kernel, rfl, by decide +kernel, by decide +kernel⟩
theorem qAny : FnScope NAny ["tape"] (defScope sAny) := ⟨rfl, rfl, rfl, by decide +kernel, rfl, by decide +kernel, by decide +kernel⟩
theorem qValued : FnScope NVal ["thing"] (defScope sValued) := ⟨rfl, rfl, rfl, by decide +kernel, rfl, by decide +kernel, by decide +kernel⟩
theorem qKept : FnScope NVal ["thing"] (defScope sKept) := ⟨rfl, rfl, rfl, by decide +kernel, rfl, by decide +kernel, by decide +kernel⟩
theorem qSorts : FnScope NSort ["error"] (defScope sSorts) := ⟨rfl, rfl, rfl, by decide +kernel, rfl, by decide +kernel, by decide +kernel⟩
theorem qLaw : FnScope NLaw ["script"] (defScope sLaw) := ⟨rfl, rfl, rfl, by decide +kernel, rfl, by decide +kernel, by decide +kernel⟩
/-- an own error class with its __init__, as a caller needs it -/
def ErrOk (P : Program) (w : World) (K : PySem.W.Frag) (mg : Str → Option Value) (base : Heap) (x : Str) (C : Addr) (f : Str) : Prop := mg x = some (.ref C) ∧ ∃ fI fd, XCls K C fI f ∧ FnOk P w K mg base CX0 1 fI fd ["self", f] (spInit C f) ∧ Binds K fd ["self", f] [] ∧
  ∀ (s : Shared) (z u : Value), K.In s.heap → BindsTo s fd ⟨[z], [(f, u)]⟩ ((["self", f] : List Str).zip [z, u])
def BareOk (K : PySem.W.Frag) (mg : Str → Option Value) (x : Str) (C : Addr) : Prop := mg x = some (.ref C) ∧ PySem.W.excIn K C [.type "ValueError", .type "Exception", .type "BaseException", .type "object"] "ValueError.__new__" = true ∧ PySem.W.keepIn K (.ref C) = true
section
variable {X : Cx} {C : Addr} {f x : Str} {p pos kp : Pos} {e : Expr} {ta : TA}
theorem pe_e1 (h : ErrOk X.prog X.w X.K X.mg X.base x C f) (hr : Room 2 X.A) (hg : Gl X x) (ha : PA X [e] ta) (hdb : (x == ("__debug__" : Str)) = false := by decide) (hs : starEach [e] X.env = (false, eval e X.env) :: starEach [] X.env := by rfl) (hpl : (backTo pos (starEach [] X.env)).any (·.1) = false := by rfl) :
    PE X (.Call (.Name x p) [e] [] pos) (tErr C f ta) := by
  obtain ⟨hm, fI, fd, T, F, b, _⟩ := h
  exact pe_err1 T F hr b rfl hg hm ha hdb hs hpl
theorem pe_eK (h : ErrOk X.prog X.w X.K X.mg X.base x C f) (hr : Room 2 X.A) (hg : Gl X x) (hk : PK X [⟨some f, e, kp⟩] ta) (hall : (backToKw pos (keywordEach [⟨some f, e, kp⟩] X.env)).all (·.1.isSome) = true := by rfl) (hks : (backToKw pos (keywordEach [⟨some f, e, kp⟩] X.env)).filterMap (·.1) = [f] := by rfl)
    (hdb : (x == ("__debug__" : Str)) = false := by decide) (hpl : ((backTo pos (starEach [] X.env)).any (·.1) || (backToKw pos (keywordEach [⟨some f, e, kp⟩] X.env)).any (·.1.isNone)) = false := by rfl) :
    PE X (.Call (.Name x p) [] [⟨some f, e, kp⟩] pos) (tErr C f ta) := by
  obtain ⟨hm, fI, fd, T, F, _, b⟩ := h
  exact pe_errK T F hr b hg hm hk hall hks hdb hpl
theorem pe_e0 (h : BareOk X.K X.mg x C) (hg : Gl X x) (hdb : (x == ("__debug__" : Str)) = false := by decide) : PE X (.Call (.Name x p) [] [] pos) (tErr0 C) :=
  pe_err0 PySem.F.excBase_ValueError h.2.1 hg h.1 h.2.2 hdb
end
/-- what the top has left -/
structure Txt (K : PySem.W.Frag) (mg : Str → Option Value) (cl : Nat → Addr) (S : Addr) : Prop where
  tab : ErrTab K cl S
  obj : XObj K
  spark : mg "SparkError" = some (.ref S)
  b_int : mg "int" = none
  b_len : mg "len" = none
  b_isinstance : mg "isinstance" = none
  b_repr : mg "repr" = none
  b_range : mg "range" = none
  b_max : mg "max" = none
  b_min : mg "min" = none
  b_enumerate : mg "enumerate" = none
  b_ValueError : mg "ValueError" = none
  oOtherFrame : BareOk K mg "OtherFrame" (cl 18)
  oNoColumns : BareOk K mg "NoColumns" (cl 19)
  oOtherShape : BareOk K mg "OtherShape" (cl 20)
  oClosedWeb : BareOk K mg "ClosedWeb" (cl 21)
  oNoForecast : BareOk K mg "NoForecast" (cl 22)
  oNothing : BareOk K mg "Nothing" (cl 23)
structure TxtE (P : Program) (w : World) (K : PySem.W.Frag) (mg : Str → Option Value) (base : Heap) (cl : Nat → Addr) : Prop where
  eBadWidth : ErrOk P w K mg base "BadWidth" (cl 0) "value"
  eBadPairs : ErrOk P w K mg base "BadPairs" (cl 1) "value"
  eBadColumns : ErrOk P w K mg base "BadColumns" (cl 2) "value"
  eBadCell : ErrOk P w K mg base "BadCell" (cl 3) "value"
  eNoSeat : ErrOk P w K mg base "NoSeat" (cl 4) "value"
  eBadSeats : ErrOk P w K mg base "BadSeats" (cl 5) "value"
  eBadTable : ErrOk P w K mg base "BadTable" (cl 6) "value"
  eBadTimes : ErrOk P w K mg base "BadTimes" (cl 7) "value"
  eNoWeb : ErrOk P w K mg base "NoWeb" (cl 8) "value"
  eBadPrices : ErrOk P w K mg base "BadPrices" (cl 9) "value"
  eBadSize : ErrOk P w K mg base "BadSize" (cl 10) "value"
  eCannotJoin : ErrOk P w K mg base "CannotJoin" (cl 11) "value"
  eIsIn : ErrOk P w K mg base "IsIn" (cl 12) "value"
  eNotIn : ErrOk P w K mg base "NotIn" (cl 13) "value"
  eBadNeed : ErrOk P w K mg base "BadNeed" (cl 14) "value"
  eBadColumn : ErrOk P w K mg base "BadColumn" (cl 15) "number"
  eTooShort : ErrOk P w K mg base "TooShort" (cl 16) "many"
  eBadLine : ErrOk P w K mg base "BadLine" (cl 17) "line"
section
variable {P : Program} {w : World} {K : PySem.W.Frag} {mg : Str → Option Value} {base : Heap} {cl : Nat → Addr} {S : Addr} {f : Addr} {fd : FuncData}
/-- a def's place, its function object, its promise, for callers -/
def DefOk (P : Program) (w : World) (K : PySem.W.Frag) (mg : Str → Option Value) (base : Heap) (k : Nat) (x : Str) (ps : List Str) (sp : Sp) : Prop := ∃ f fd, mg x = some (.ref f) ∧ PySem.W.keepIn K (.ref f) = true ∧ Binds K fd ps [] ∧ FnOk P w K mg base CX0 k f fd ps sp
theorem pe_d {X : Cx} {x : Str} {k : Nat} {ps : List Str} {sp : Sp} {e : Expr} {es : List Expr} {t : TA} {p pos : Pos} (h : DefOk X.prog X.w X.K X.mg X.base k x ps sp) (hr : Room k X.A) (hg : Gl X x) (ha : PA X (e :: es) t) (hdb : (x == ("__debug__" : Str)) = false := by decide)
    (he : starEach (e :: es) X.env = (false, eval e X.env) :: starEach es X.env := by rfl) (hpl : (backTo pos (starEach es X.env)).any (·.1) = false := by rfl) : PE X (.Call (.Name x p) (e :: es) [] pos) (tCall sp [] E0 t) := by
  obtain ⟨f, fd, hm, hk, b, F⟩ := h
  exact pe_call F hr hg hm hk b .nil (fun _ _ _ _ _ _ _ h => h.elim) ha hdb he hpl
theorem kBadWidth {C : Addr} (F : Fun K "__init__" "BadWidth.__init__" iBadWidth f fd) (T : OexC K C) (no : PySem.W.findIn K (.ref C) "value" = some none) : FnOk P w K mg base CX0 1 f fd ["self", "value"] (spInit C "value") := by
  refine F.ok qBadWidth (fun vs H Q E h => ?_) (fun cdv A outer s H vs Q E hr h => ?_)
  · obtain ⟨_, _, rfl, _⟩ := h
    rfl
  · obtain ⟨a, v, rfl, ha, k⟩ := h
    exact ⟨_, pss_one (ps_ost (pv 0) (pv 1)), _, rfl, _, rfl, a, C, rfl, T, no, .inl ⟨ha, k⟩⟩
theorem kBadPairs {C : Addr} (F : Fun K "__init__" "BadPairs.__init__" iBadPairs f fd) (T : OexC K C) (no : PySem.W.findIn K (.ref C) "value" = some none) : FnOk P w K mg base CX0 1 f fd ["self", "value"] (spInit C "value") := by
  refine F.ok qBadPairs (fun vs H Q E h => ?_) (fun cdv A outer s H vs Q E hr h => ?_)
  · obtain ⟨_, _, rfl, _⟩ := h
    rfl
  · obtain ⟨a, v, rfl, ha, k⟩ := h
    exact ⟨_, pss_one (ps_ost (pv 0) (pv 1)), _, rfl, _, rfl, a, C, rfl, T, no, .inl ⟨ha, k⟩⟩
theorem kBadColumns {C : Addr} (F : Fun K "__init__" "BadColumns.__init__" iBadColumns f fd) (T : OexC K C) (no : PySem.W.findIn K (.ref C) "value" = some none) : FnOk P w K mg base CX0 1 f fd ["self", "value"] (spInit C "value") := by
  refine F.ok qBadColumns (fun vs H Q E h => ?_) (fun cdv A outer s H vs Q E hr h => ?_)
  · obtain ⟨_, _, rfl, _⟩ := h
    rfl
  · obtain ⟨a, v, rfl, ha, k⟩ := h
    exact ⟨_, pss_one (ps_ost (pv 0) (pv 1)), _, rfl, _, rfl, a, C, rfl, T, no, .inl ⟨ha, k⟩⟩
theorem kBadCell {C : Addr} (F : Fun K "__init__" "BadCell.__init__" iBadCell f fd) (T : OexC K C) (no : PySem.W.findIn K (.ref C) "value" = some none) : FnOk P w K mg base CX0 1 f fd ["self", "value"] (spInit C "value") := by
  refine F.ok qBadCell (fun vs H Q E h => ?_) (fun cdv A outer s H vs Q E hr h => ?_)
  · obtain ⟨_, _, rfl, _⟩ := h
    rfl
  · obtain ⟨a, v, rfl, ha, k⟩ := h
    exact ⟨_, pss_one (ps_ost (pv 0) (pv 1)), _, rfl, _, rfl, a, C, rfl, T, no, .inl ⟨ha, k⟩⟩
theorem kNoSeat {C : Addr} (F : Fun K "__init__" "NoSeat.__init__" iNoSeat f fd) (T : OexC K C) (no : PySem.W.findIn K (.ref C) "value" = some none) : FnOk P w K mg base CX0 1 f fd ["self", "value"] (spInit C "value") := by
  refine F.ok qNoSeat (fun vs H Q E h => ?_) (fun cdv A outer s H vs Q E hr h => ?_)
  · obtain ⟨_, _, rfl, _⟩ := h
    rfl
  · obtain ⟨a, v, rfl, ha, k⟩ := h
    exact ⟨_, pss_one (ps_ost (pv 0) (pv 1)), _, rfl, _, rfl, a, C, rfl, T, no, .inl ⟨ha, k⟩⟩
theorem kBadSeats {C : Addr} (F : Fun K "__init__" "BadSeats.__init__" iBadSeats f fd) (T : OexC K C) (no : PySem.W.findIn K (.ref C) "value" = some none) : FnOk P w K mg base CX0 1 f fd ["self", "value"] (spInit C "value") := by
  refine F.ok qBadSeats (fun vs H Q E h => ?_) (fun cdv A outer s H vs Q E hr h => ?_)
  · obtain ⟨_, _, rfl, _⟩ := h
    rfl
  · obtain ⟨a, v, rfl, ha, k⟩ := h
    exact ⟨_, pss_one (ps_ost (pv 0) (pv 1)), _, rfl, _, rfl, a, C, rfl, T, no, .inl ⟨ha, k⟩⟩
theorem kBadTable {C : Addr} (F : Fun K "__init__" "BadTable.__init__" iBadTable f fd) (T : OexC K C) (no : PySem.W.findIn K (.ref C) "value" = some none) : FnOk P w K mg base CX0 1 f fd ["self", "value"] (spInit C "value") := by
  refine F.ok qBadTable (fun vs H Q E h => ?_) (fun cdv A outer s H vs Q E hr h => ?_)
  · obtain ⟨_, _, rfl, _⟩ := h
    rfl
  · obtain ⟨a, v, rfl, ha, k⟩ := h
    exact ⟨_, pss_one (ps_ost (pv 0) (pv 1)), _, rfl, _, rfl, a, C, rfl, T, no, .inl ⟨ha, k⟩⟩
theorem kBadTimes {C : Addr} (F : Fun K "__init__" "BadTimes.__init__" iBadTimes f fd) (T : OexC K C) (no : PySem.W.findIn K (.ref C) "value" = some none) : FnOk P w K mg base CX0 1 f fd ["self", "value"] (spInit C "value") := by
  refine F.ok qBadTimes (fun vs H Q E h => ?_) (fun cdv A outer s H vs Q E hr h => ?_)
  · obtain ⟨_, _, rfl, _⟩ := h
    rfl
  · obtain ⟨a, v, rfl, ha, k⟩ := h
    exact ⟨_, pss_one (ps_ost (pv 0) (pv 1)), _, rfl, _, rfl, a, C, rfl, T, no, .inl ⟨ha, k⟩⟩
theorem kNoWeb {C : Addr} (F : Fun K "__init__" "NoWeb.__init__" iNoWeb f fd) (T : OexC K C) (no : PySem.W.findIn K (.ref C) "value" = some none) : FnOk P w K mg base CX0 1 f fd ["self", "value"] (spInit C "value") := by
  refine F.ok qNoWeb (fun vs H Q E h => ?_) (fun cdv A outer s H vs Q E hr h => ?_)
  · obtain ⟨_, _, rfl, _⟩ := h
    rfl
  · obtain ⟨a, v, rfl, ha, k⟩ := h
    exact ⟨_, pss_one (ps_ost (pv 0) (pv 1)), _, rfl, _, rfl, a, C, rfl, T, no, .inl ⟨ha, k⟩⟩
theorem kBadPrices {C : Addr} (F : Fun K "__init__" "BadPrices.__init__" iBadPrices f fd) (T : OexC K C) (no : PySem.W.findIn K (.ref C) "value" = some none) : FnOk P w K mg base CX0 1 f fd ["self", "value"] (spInit C "value") := by
  refine F.ok qBadPrices (fun vs H Q E h => ?_) (fun cdv A outer s H vs Q E hr h => ?_)
  · obtain ⟨_, _, rfl, _⟩ := h
    rfl
  · obtain ⟨a, v, rfl, ha, k⟩ := h
    exact ⟨_, pss_one (ps_ost (pv 0) (pv 1)), _, rfl, _, rfl, a, C, rfl, T, no, .inl ⟨ha, k⟩⟩
theorem kBadSize {C : Addr} (F : Fun K "__init__" "BadSize.__init__" iBadSize f fd) (T : OexC K C) (no : PySem.W.findIn K (.ref C) "value" = some none) : FnOk P w K mg base CX0 1 f fd ["self", "value"] (spInit C "value") := by
  refine F.ok qBadSize (fun vs H Q E h => ?_) (fun cdv A outer s H vs Q E hr h => ?_)
  · obtain ⟨_, _, rfl, _⟩ := h
    rfl
  · obtain ⟨a, v, rfl, ha, k⟩ := h
    exact ⟨_, pss_one (ps_ost (pv 0) (pv 1)), _, rfl, _, rfl, a, C, rfl, T, no, .inl ⟨ha, k⟩⟩
theorem kCannotJoin {C : Addr} (F : Fun K "__init__" "CannotJoin.__init__" iCannotJoin f fd) (T : OexC K C) (no : PySem.W.findIn K (.ref C) "value" = some none) : FnOk P w K mg base CX0 1 f fd ["self", "value"] (spInit C "value") := by
  refine F.ok qCannotJoin (fun vs H Q E h => ?_) (fun cdv A outer s H vs Q E hr h => ?_)
  · obtain ⟨_, _, rfl, _⟩ := h
    rfl
  · obtain ⟨a, v, rfl, ha, k⟩ := h
    exact ⟨_, pss_one (ps_ost (pv 0) (pv 1)), _, rfl, _, rfl, a, C, rfl, T, no, .inl ⟨ha, k⟩⟩
theorem kIsIn {C : Addr} (F : Fun K "__init__" "IsIn.__init__" iIsIn f fd) (T : OexC K C) (no : PySem.W.findIn K (.ref C) "value" = some none) : FnOk P w K mg base CX0 1 f fd ["self", "value"] (spInit C "value") := by
  refine F.ok qIsIn (fun vs H Q E h => ?_) (fun cdv A outer s H vs Q E hr h => ?_)
  · obtain ⟨_, _, rfl, _⟩ := h
    rfl
  · obtain ⟨a, v, rfl, ha, k⟩ := h
    exact ⟨_, pss_one (ps_ost (pv 0) (pv 1)), _, rfl, _, rfl, a, C, rfl, T, no, .inl ⟨ha, k⟩⟩
theorem kNotIn {C : Addr} (F : Fun K "__init__" "NotIn.__init__" iNotIn f fd) (T : OexC K C) (no : PySem.W.findIn K (.ref C) "value" = some none) : FnOk P w K mg base CX0 1 f fd ["self", "value"] (spInit C "value") := by
  refine F.ok qNotIn (fun vs H Q E h => ?_) (fun cdv A outer s H vs Q E hr h => ?_)
  · obtain ⟨_, _, rfl, _⟩ := h
    rfl
  · obtain ⟨a, v, rfl, ha, k⟩ := h
    exact ⟨_, pss_one (ps_ost (pv 0) (pv 1)), _, rfl, _, rfl, a, C, rfl, T, no, .inl ⟨ha, k⟩⟩
theorem kBadNeed {C : Addr} (F : Fun K "__init__" "BadNeed.__init__" iBadNeed f fd) (T : OexC K C) (no : PySem.W.findIn K (.ref C) "value" = some none) : FnOk P w K mg base CX0 1 f fd ["self", "value"] (spInit C "value") := by
  refine F.ok qBadNeed (fun vs H Q E h => ?_) (fun cdv A outer s H vs Q E hr h => ?_)
  · obtain ⟨_, _, rfl, _⟩ := h
    rfl
  · obtain ⟨a, v, rfl, ha, k⟩ := h
    exact ⟨_, pss_one (ps_ost (pv 0) (pv 1)), _, rfl, _, rfl, a, C, rfl, T, no, .inl ⟨ha, k⟩⟩
theorem kBadColumn {C : Addr} (F : Fun K "__init__" "BadColumn.__init__" iBadColumn f fd) (T : OexC K C) (no : PySem.W.findIn K (.ref C) "number" = some none) : FnOk P w K mg base CX0 1 f fd ["self", "number"] (spInit C "number") := by
  refine F.ok qBadColumn (fun vs H Q E h => ?_) (fun cdv A outer s H vs Q E hr h => ?_)
  · obtain ⟨_, _, rfl, _⟩ := h
    rfl
  · obtain ⟨a, v, rfl, ha, k⟩ := h
    exact ⟨_, pss_one (ps_ost (pv 0) (pv 1)), _, rfl, _, rfl, a, C, rfl, T, no, .inl ⟨ha, k⟩⟩
theorem kTooShort {C : Addr} (F : Fun K "__init__" "TooShort.__init__" iTooShort f fd) (T : OexC K C) (no : PySem.W.findIn K (.ref C) "many" = some none) : FnOk P w K mg base CX0 1 f fd ["self", "many"] (spInit C "many") := by
  refine F.ok qTooShort (fun vs H Q E h => ?_) (fun cdv A outer s H vs Q E hr h => ?_)
  · obtain ⟨_, _, rfl, _⟩ := h
    rfl
  · obtain ⟨a, v, rfl, ha, k⟩ := h
    exact ⟨_, pss_one (ps_ost (pv 0) (pv 1)), _, rfl, _, rfl, a, C, rfl, T, no, .inl ⟨ha, k⟩⟩
theorem kBadLine {C : Addr} (F : Fun K "__init__" "BadLine.__init__" iBadLine f fd) (T : OexC K C) (no : PySem.W.findIn K (.ref C) "line" = some none) : FnOk P w K mg base CX0 1 f fd ["self", "line"] (spInit C "line") := by
  refine F.ok qBadLine (fun vs H Q E h => ?_) (fun cdv A outer s H vs Q E hr h => ?_)
  · obtain ⟨_, _, rfl, _⟩ := h
    rfl
  · obtain ⟨a, v, rfl, ha, k⟩ := h
    exact ⟨_, pss_one (ps_ost (pv 0) (pv 1)), _, rfl, _, rfl, a, C, rfl, T, no, .inl ⟨ha, k⟩⟩
theorem ok_tape (F : Fun K "_law_tape" "_law_tape" sTape f fd) (T : Txt K mg cl S) : FnOk P w K mg base CX0 1 f fd ["script", "start"] (spTape K) := by
  refine F.ok qTape (fun vs H Q E h => ?_) (fun cdv A outer s H vs Q E hr h => ⟨t_tape K, PSs.nox ?_, pure_tape vs H Q E h⟩)
  · obtain ⟨_, _, _, rfl, _⟩ := h
    rfl
  · exact (pss_cons (ps_set (i := 2) qTape.nd rfl (Or.inl rfl) (pe_op op_add pe_int (pe_op op_mul (pv 1) pe_int))) (pss_cons (ps_for PassesOwn.never rfl (pi_list (pv 0)) (pg_name (i := 3) qTape.nd rfl (Or.inl rfl)) (pss_one (ps_set (i := 2) qTape.nd rfl (Or.inl rfl) (pe_op op_add (pe_op op_mod (pe_callTy call_int1 (by rfl) T.b_int PyProof.Rows.boot_int (pa_cons (pe_op op_sqB (pe_op op_add (pe_op op_add (pe_op op_mul (pv 2) pe_int) (pe_op op_mulB (pv 3) (pv 3))) pe_int) pe_int) pa_nil)) pe_int) pe_int)))) (pss_cons (ps_set (i := 4) qTape.nd rfl (Or.inl rfl) (pe_ifExp (PW.pt (pw_and (pt_cmpR op_lt (pv 1) (pe_callB call_len_seq (by rfl) T.b_len PySem.boot_len (pa_cons (pv 0) pa_nil)) (nomark _)) (pw_and1 (pt_cmpR op_ge (pe_ix ix_list (pv 0) (pv 1) (fun _ _ => rfl)) (pe_op op_pow pe_int pe_int) (nomark _))))) (pe_op op_sub (pe_ix ix_list (pv 0) (pv 1) (fun _ _ => rfl)) (pe_op op_pow pe_int pe_int)) pe_int)) (pss_one (ps_ret (pe_disp (pps_cons pe_str (pv 4) (pps_cons pe_str (pv 2) pps_nil)) (by rfl) (by rfl) (fun z => by cases z) (by decide)))))))
theorem ok_pick (F : Fun K "_law_pick" "_law_pick" sPick f fd) (T : Txt K mg cl S) : FnOk P w K mg base CX0 1 f fd ["tape", "many_here"] (spPick) := by
  refine F.ok qPick (fun vs H Q E h => ?_) (fun cdv A outer s H vs Q E hr h => ⟨t_pick, PSs.nox ?_, pure_pick vs H Q E h⟩)
  · obtain ⟨_, _, rfl, _⟩ := h
    rfl
  · exact (pss_cons (ps_if (pt_cmpR op_ge (pe_dget (hu_of hr) (pv 0) pe_str (fun _ _ => rfl)) (pv 1) (nomark _)) (pss_cons (ps_set (i := 2) qPick.nd rfl (Or.inl rfl) (pe_op op_mod (pe_callTy call_int1 (by rfl) T.b_int PyProof.Rows.boot_int (pa_cons (pe_dget (hu_of hr) (pv 0) pe_str (fun _ _ => rfl)) pa_nil)) (pv 1))) (pss_cons (ps_dput (hu_of hr) (pv 0) pe_str (pe_op op_fdivN (pe_dget (hu_of hr) (pv 0) pe_str (fun _ _ => rfl)) (pv 1)) rfl) (pss_one (ps_ret (pv 2))))) pss_nil) (pss_cons (ps_dput (hu_of hr) (pv 0) pe_str (pe_op op_mod (pe_callTy call_int1 (by rfl) T.b_int PyProof.Rows.boot_int (pa_cons (pe_op op_add (pe_op op_mul (pe_dget (hu_of hr) (pv 0) pe_str (fun _ _ => rfl)) pe_int) pe_int) pa_nil)) pe_int) rfl) (pss_cons (ps_set (i := 3) qPick.nd rfl (Or.inl rfl) (pe_op op_mod (pe_callTy call_int1 (by rfl) T.b_int PyProof.Rows.boot_int (pa_cons (pe_op op_pow (pe_dget (hu_of hr) (pv 0) pe_str (fun _ _ => rfl)) pe_int) pa_nil)) pe_int)) (pss_one (ps_ret (pe_op op_mod (pe_callTy call_int1 (by rfl) T.b_int PyProof.Rows.boot_int (pa_cons (pe_op op_fdivN (pe_op op_mod (pe_callTy call_int1 (by rfl) T.b_int PyProof.Rows.boot_int (pa_cons (pe_op op_pow (pv 3) pe_int) pa_nil)) pe_int) pe_int) pa_nil)) (pv 1)))))))
theorem ok_one (F : Fun K "_law_one_of" "_law_one_of" sOne f fd) (T : Txt K mg cl S) (GP : DefOk P w K mg base 1 "_law_pick" ["tape", "many_here"] spPick) : FnOk P w K mg base CX0 2 f fd ["tape", "things"] (spOne K) := by
  refine F.ok qOne (fun vs H Q E h => ?_) (fun cdv A outer s H vs Q E hr h => ⟨t_one K, PSs.nox ?_, pure_one vs H Q E h⟩)
  · obtain ⟨_, _, _, rfl, _⟩ := h
    rfl
  · exact (pss_one (ps_ret (pe_ix ix_list (pv 1) (pe_d GP hr rfl (pa_cons (pv 0) (pa_cons (pe_callB call_len_seq (by rfl) T.b_len PySem.boot_len (pa_cons (pv 1) pa_nil)) pa_nil))) (fun _ _ => rfl))))
theorem ok_any (F : Fun K "_law_any" "_law_any" sAny f fd) (T : Txt K mg cl S) (GO : DefOk P w K mg base 2 "_law_one_of" ["tape", "things"] (spOne K)) : FnOk P w K mg base CX0 3 f fd ["tape"] (spAny K) := by
  refine F.ok qAny (fun vs H Q E h => ?_) (fun cdv A outer s H vs Q E hr h => ⟨t_any K, PSs.nox ?_, pure_any vs H Q E h⟩)
  · obtain ⟨_, rfl, _⟩ := h
    rfl
  · exact (pss_cons (ps_set (i := 1) qAny.nd rfl (Or.inl rfl) (pe_lst (pa_cons pe_non (pa_cons pe_bl (pa_cons pe_bl (pa_cons pe_int (pa_cons pe_int (pa_cons pe_int (pa_cons pe_int (pa_cons pe_int (pa_cons pe_int (pa_cons pe_int (pa_cons (pe_op op_sub pe_int pe_int) (pa_cons (pe_op op_pow pe_int pe_int) (pa_cons pe_str (pa_cons pe_str (pa_cons pe_str (pa_cons pe_str (pa_cons pe_str (pa_cons pe_str (pa_cons pe_str pa_nil))))))))))))))))))))) (pss_cons (ps_set (i := 1) qAny.nd rfl (Or.inl rfl) (pe_op op_cat (pv 1) (pe_lst (pa_cons (pe_tup pa_nil) (pa_cons (pe_lst pa_nil) (pa_cons pe_dnewK (pa_cons (pe_tup (pa_cons pe_int pa_nil)) (pa_cons (pe_lst (pa_cons pe_int pa_nil)) (pa_cons (pe_disp (pps_cons pe_str pe_int pps_nil) (by rfl) (by rfl) (fun z => by cases z) (by decide)) (pa_cons (pe_tup (pa_cons pe_int (pa_cons pe_int pa_nil))) (pa_cons (pe_lst (pa_cons (pe_tup (pa_cons pe_int (pa_cons pe_int pa_nil))) pa_nil)) (pa_cons (pe_tup (pa_cons (pe_tup (pa_cons pe_int (pa_cons pe_int pa_nil))) pa_nil)) (pa_cons (pe_tup (pa_cons pe_int (pa_cons pe_int pa_nil))) (pa_cons (pe_tup (pa_cons pe_int (pa_cons pe_bl pa_nil))) (pa_cons (pe_tup (pa_cons (pe_tup (pa_cons pe_int (pa_cons pe_bl pa_nil))) pa_nil)) (pa_cons (pe_lst (pa_cons (pe_tup (pa_cons (pe_tup (pa_cons pe_int (pa_cons pe_bl pa_nil))) pa_nil)) pa_nil)) pa_nil)))))))))))))))) (pss_one (ps_ret (pe_d GO hr rfl (pa_cons (pv 0) (pa_cons (pe_op op_cat (pv 1) (pe_lst (pa_cons (pe_tup (pa_cons pe_non pa_nil)) (pa_cons (pe_tup (pa_cons pe_int (pa_cons pe_bl pa_nil))) (pa_cons (pe_tup (pa_cons pe_int (pa_cons pe_int (pa_cons pe_int pa_nil)))) (pa_cons (pe_tup (pa_cons pe_str pa_nil)) (pa_cons (pe_tup (pa_cons pe_str (pa_cons (pe_tup (pa_cons pe_int (pa_cons pe_int pa_nil))) pa_nil))) (pa_cons (pe_disp (pps_cons pe_int pe_int pps_nil) (by rfl) (by rfl) (fun z => by cases z) (by decide)) (pa_cons (pe_lst (pa_cons pe_non pa_nil)) (pa_cons (pe_tup (pa_cons pe_int (pa_cons pe_int (pa_cons pe_int pa_nil)))) (pa_cons (pe_tup (pa_cons pe_int (pa_cons pe_bl pa_nil))) (pa_cons pe_int pa_nil)))))))))))) pa_nil)))))))
theorem ok_valued (F : Fun K "_law_valued" "_law_valued" sValued f fd) (T : Txt K mg cl S) (TE : TxtE P w K mg base cl) : FnOk P w K mg base CX0 3 f fd ["thing"] (spRows cl 15) := by
  refine F.ok qValued (fun vs H Q E h => ?_) (fun cdv A outer s H vs Q E hr h => ⟨t_valued K cl, PSs.nox ?_, pure_valued T.tab vs H Q E h⟩)
  · obtain ⟨_, rfl, _⟩ := h
    rfl
  · have hr2 := hr
    exact (pss_cons (ps_set (i := 1) qValued.nd rfl (Or.inl rfl) (pe_lst (pa_cons (pe_tup (pa_cons (pe_e1 TE.eBadWidth hr2 rfl (pa_cons (pv 0) pa_nil)) (pa_cons (pe_eK TE.eBadWidth hr2 rfl (pk_cons (pv 0) pk_nil)) pa_nil))) (pa_cons (pe_tup (pa_cons (pe_e1 TE.eBadPairs hr2 rfl (pa_cons (pv 0) pa_nil)) (pa_cons (pe_eK TE.eBadPairs hr2 rfl (pk_cons (pv 0) pk_nil)) pa_nil))) pa_nil)))) (pss_cons (ps_set (i := 1) qValued.nd rfl (Or.inl rfl) (pe_op op_cat (pv 1) (pe_lst (pa_cons (pe_tup (pa_cons (pe_e1 TE.eBadColumns hr2 rfl (pa_cons (pv 0) pa_nil)) (pa_cons (pe_eK TE.eBadColumns hr2 rfl (pk_cons (pv 0) pk_nil)) pa_nil))) (pa_cons (pe_tup (pa_cons (pe_e1 TE.eBadCell hr2 rfl (pa_cons (pv 0) pa_nil)) (pa_cons (pe_eK TE.eBadCell hr2 rfl (pk_cons (pv 0) pk_nil)) pa_nil))) pa_nil))))) (pss_cons (ps_set (i := 1) qValued.nd rfl (Or.inl rfl) (pe_op op_cat (pv 1) (pe_lst (pa_cons (pe_tup (pa_cons (pe_e1 TE.eNoSeat hr2 rfl (pa_cons (pv 0) pa_nil)) (pa_cons (pe_eK TE.eNoSeat hr2 rfl (pk_cons (pv 0) pk_nil)) pa_nil))) (pa_cons (pe_tup (pa_cons (pe_e1 TE.eBadSeats hr2 rfl (pa_cons (pv 0) pa_nil)) (pa_cons (pe_eK TE.eBadSeats hr2 rfl (pk_cons (pv 0) pk_nil)) pa_nil))) pa_nil))))) (pss_cons (ps_set (i := 1) qValued.nd rfl (Or.inl rfl) (pe_op op_cat (pv 1) (pe_lst (pa_cons (pe_tup (pa_cons (pe_e1 TE.eBadTable hr2 rfl (pa_cons (pv 0) pa_nil)) (pa_cons (pe_eK TE.eBadTable hr2 rfl (pk_cons (pv 0) pk_nil)) pa_nil))) (pa_cons (pe_tup (pa_cons (pe_e1 TE.eBadTimes hr2 rfl (pa_cons (pv 0) pa_nil)) (pa_cons (pe_eK TE.eBadTimes hr2 rfl (pk_cons (pv 0) pk_nil)) pa_nil))) pa_nil))))) (pss_cons (ps_set (i := 1) qValued.nd rfl (Or.inl rfl) (pe_op op_cat (pv 1) (pe_lst (pa_cons (pe_tup (pa_cons (pe_e1 TE.eNoWeb hr2 rfl (pa_cons (pv 0) pa_nil)) (pa_cons (pe_eK TE.eNoWeb hr2 rfl (pk_cons (pv 0) pk_nil)) pa_nil))) (pa_cons (pe_tup (pa_cons (pe_e1 TE.eBadPrices hr2 rfl (pa_cons (pv 0) pa_nil)) (pa_cons (pe_eK TE.eBadPrices hr2 rfl (pk_cons (pv 0) pk_nil)) pa_nil))) pa_nil))))) (pss_cons (ps_set (i := 1) qValued.nd rfl (Or.inl rfl) (pe_op op_cat (pv 1) (pe_lst (pa_cons (pe_tup (pa_cons (pe_e1 TE.eBadSize hr2 rfl (pa_cons (pv 0) pa_nil)) (pa_cons (pe_eK TE.eBadSize hr2 rfl (pk_cons (pv 0) pk_nil)) pa_nil))) (pa_cons (pe_tup (pa_cons (pe_e1 TE.eCannotJoin hr2 rfl (pa_cons (pv 0) pa_nil)) (pa_cons (pe_eK TE.eCannotJoin hr2 rfl (pk_cons (pv 0) pk_nil)) pa_nil))) pa_nil))))) (pss_cons (ps_set (i := 1) qValued.nd rfl (Or.inl rfl) (pe_op op_cat (pv 1) (pe_lst (pa_cons (pe_tup (pa_cons (pe_e1 TE.eIsIn hr2 rfl (pa_cons (pv 0) pa_nil)) (pa_cons (pe_eK TE.eIsIn hr2 rfl (pk_cons (pv 0) pk_nil)) pa_nil))) (pa_cons (pe_tup (pa_cons (pe_e1 TE.eNotIn hr2 rfl (pa_cons (pv 0) pa_nil)) (pa_cons (pe_eK TE.eNotIn hr2 rfl (pk_cons (pv 0) pk_nil)) pa_nil))) (pa_cons (pe_tup (pa_cons (pe_e1 TE.eBadNeed hr2 rfl (pa_cons (pv 0) pa_nil)) (pa_cons (pe_eK TE.eBadNeed hr2 rfl (pk_cons (pv 0) pk_nil)) pa_nil))) pa_nil)))))) (pss_one (ps_ret (pe_lc (own := [("one", 2), ("two", 3)]) rfl qValued.nd (pi_list (pv 1)) (blkOk_by (N := NVal) (sc := defScope sValued) (by decide +kernel)) (fun _ _ _ _ _ => (pg_tup rfl (pgs_cons (pg_name (i := 2) qValued.nd rfl (Or.inl rfl)) (pgs_cons (pg_name (i := 3) qValued.nd rfl (Or.inl rfl)) pgs_nil)))) (fun _ _ _ _ _ => pts_nil) (fun _ _ _ _ _ => (pe_tup (pa_cons (pv 2) (pa_cons (pv 3) (pa_cons (pe_xfld (pv 2)) (pa_cons (pe_xfld (pv 3)) pa_nil))))))))))))))))
theorem ok_kept (F : Fun K "_law_kept" "_law_kept" sKept f fd) (T : Txt K mg cl S) (TE : TxtE P w K mg base cl) (GV : DefOk P w K mg base 3 "_law_valued" ["thing"] (spRows cl 15)) : FnOk P w K mg base CX0 4 f fd ["thing"] (spRows cl 18) := by
  refine F.ok qKept (fun vs H Q E h => ?_) (fun cdv A outer s H vs Q E hr h => ⟨t_kept K cl, PSs.nox ?_, pure_kept T.tab vs H Q E h⟩)
  · obtain ⟨_, rfl, _⟩ := h
    rfl
  · have hr2 := hr.mono (show 2 ≤ 3 by decide)
    exact (pss_cons (ps_set (i := 1) qKept.nd rfl (Or.inl rfl) (pe_d GV hr rfl (pa_cons (pv 0) pa_nil))) (pss_cons (ps_par (i := 2) (j := 3) rfl qKept.nd rfl rfl (by decide) rfl rfl (pa_cons (pe_e1 TE.eBadColumn hr2 rfl (pa_cons (pv 0) pa_nil)) (pa_cons (pe_eK TE.eBadColumn hr2 rfl (pk_cons (pv 0) pk_nil)) pa_nil)) (by rfl)) (pss_cons (ps_expr (pe_bm PySem.F.plainAttrs_list PySem.F.slot_list_append PySem.F.type_list_append mt_append (pv 1) (pa_cons (pe_tup (pa_cons (pv 2) (pa_cons (pv 3) (pa_cons (pe_xfld (pv 2)) (pa_cons (pe_xfld (pv 3)) pa_nil))))) pa_nil))) (pss_cons (ps_par (i := 2) (j := 3) rfl qKept.nd rfl rfl (by decide) rfl rfl (pa_cons (pe_e1 TE.eTooShort hr2 rfl (pa_cons (pv 0) pa_nil)) (pa_cons (pe_eK TE.eTooShort hr2 rfl (pk_cons (pv 0) pk_nil)) pa_nil)) (by rfl)) (pss_cons (ps_expr (pe_bm PySem.F.plainAttrs_list PySem.F.slot_list_append PySem.F.type_list_append mt_append (pv 1) (pa_cons (pe_tup (pa_cons (pv 2) (pa_cons (pv 3) (pa_cons (pe_xfld (pv 2)) (pa_cons (pe_xfld (pv 3)) pa_nil))))) pa_nil))) (pss_cons (ps_par (i := 2) (j := 3) rfl qKept.nd rfl rfl (by decide) rfl rfl (pa_cons (pe_e1 TE.eBadLine hr2 rfl (pa_cons (pv 0) pa_nil)) (pa_cons (pe_eK TE.eBadLine hr2 rfl (pk_cons (pv 0) pk_nil)) pa_nil)) (by rfl)) (pss_one (ps_ret (pe_op op_cat (pv 1) (pe_lst (pa_cons (pe_tup (pa_cons (pv 2) (pa_cons (pv 3) (pa_cons (pe_xfld (pv 2)) (pa_cons (pe_xfld (pv 3)) pa_nil))))) pa_nil)))))))))))
theorem ok_sorts (F : Fun K "_law_sorts" "_law_sorts" sSorts f fd) (T : Txt K mg cl S) (TE : TxtE P w K mg base cl) : FnOk P w K mg base CX0 1 f fd ["error"] (spSorts cl) := by
  refine F.ok qSorts (fun vs H Q E h => ?_) (fun cdv A outer s H vs Q E hr h => ⟨t_sorts K cl, PSs.nox ?_, pure_sorts T.tab vs H Q E h⟩)
  · obtain ⟨_, _, rfl, _⟩ := h
    rfl
  · exact (pss_cons (ps_set (i := 1) qSorts.nd rfl (Or.inl rfl) (pe_lst (pa_cons (pe_callB (call_isX T.obj) (by rfl) T.b_isinstance PyProof.Rows.boot_isinstance (pa_cons (pv 0) (pa_cons (pe_glob rfl TE.eBadWidth.1 rfl) pa_nil))) (pa_cons (pe_callB (call_isX T.obj) (by rfl) T.b_isinstance PyProof.Rows.boot_isinstance (pa_cons (pv 0) (pa_cons (pe_glob rfl TE.eBadPairs.1 rfl) pa_nil))) (pa_cons (pe_callB (call_isX T.obj) (by rfl) T.b_isinstance PyProof.Rows.boot_isinstance (pa_cons (pv 0) (pa_cons (pe_glob rfl TE.eBadColumns.1 rfl) pa_nil))) (pa_cons (pe_callB (call_isX T.obj) (by rfl) T.b_isinstance PyProof.Rows.boot_isinstance (pa_cons (pv 0) (pa_cons (pe_glob rfl TE.eBadCell.1 rfl) pa_nil))) pa_nil)))))) (pss_cons (ps_set (i := 1) qSorts.nd rfl (Or.inl rfl) (pe_op op_cat (pv 1) (pe_lst (pa_cons (pe_callB (call_isX T.obj) (by rfl) T.b_isinstance PyProof.Rows.boot_isinstance (pa_cons (pv 0) (pa_cons (pe_glob rfl TE.eNoSeat.1 rfl) pa_nil))) (pa_cons (pe_callB (call_isX T.obj) (by rfl) T.b_isinstance PyProof.Rows.boot_isinstance (pa_cons (pv 0) (pa_cons (pe_glob rfl TE.eBadSeats.1 rfl) pa_nil))) (pa_cons (pe_callB (call_isX T.obj) (by rfl) T.b_isinstance PyProof.Rows.boot_isinstance (pa_cons (pv 0) (pa_cons (pe_glob rfl TE.eBadTable.1 rfl) pa_nil))) (pa_cons (pe_callB (call_isX T.obj) (by rfl) T.b_isinstance PyProof.Rows.boot_isinstance (pa_cons (pv 0) (pa_cons (pe_glob rfl TE.eBadTimes.1 rfl) pa_nil))) pa_nil))))))) (pss_cons (ps_set (i := 1) qSorts.nd rfl (Or.inl rfl) (pe_op op_cat (pv 1) (pe_lst (pa_cons (pe_callB (call_isX T.obj) (by rfl) T.b_isinstance PyProof.Rows.boot_isinstance (pa_cons (pv 0) (pa_cons (pe_glob rfl TE.eNoWeb.1 rfl) pa_nil))) (pa_cons (pe_callB (call_isX T.obj) (by rfl) T.b_isinstance PyProof.Rows.boot_isinstance (pa_cons (pv 0) (pa_cons (pe_glob rfl TE.eBadPrices.1 rfl) pa_nil))) (pa_cons (pe_callB (call_isX T.obj) (by rfl) T.b_isinstance PyProof.Rows.boot_isinstance (pa_cons (pv 0) (pa_cons (pe_glob rfl TE.eBadSize.1 rfl) pa_nil))) (pa_cons (pe_callB (call_isX T.obj) (by rfl) T.b_isinstance PyProof.Rows.boot_isinstance (pa_cons (pv 0) (pa_cons (pe_glob rfl TE.eCannotJoin.1 rfl) pa_nil))) pa_nil))))))) (pss_cons (ps_set (i := 1) qSorts.nd rfl (Or.inl rfl) (pe_op op_cat (pv 1) (pe_lst (pa_cons (pe_callB (call_isX T.obj) (by rfl) T.b_isinstance PyProof.Rows.boot_isinstance (pa_cons (pv 0) (pa_cons (pe_glob rfl TE.eIsIn.1 rfl) pa_nil))) (pa_cons (pe_callB (call_isX T.obj) (by rfl) T.b_isinstance PyProof.Rows.boot_isinstance (pa_cons (pv 0) (pa_cons (pe_glob rfl TE.eNotIn.1 rfl) pa_nil))) (pa_cons (pe_callB (call_isX T.obj) (by rfl) T.b_isinstance PyProof.Rows.boot_isinstance (pa_cons (pv 0) (pa_cons (pe_glob rfl TE.eBadNeed.1 rfl) pa_nil))) (pa_cons (pe_callB (call_isX T.obj) (by rfl) T.b_isinstance PyProof.Rows.boot_isinstance (pa_cons (pv 0) (pa_cons (pe_glob rfl TE.eBadColumn.1 rfl) pa_nil))) pa_nil))))))) (pss_cons (ps_set (i := 1) qSorts.nd rfl (Or.inl rfl) (pe_op op_cat (pv 1) (pe_lst (pa_cons (pe_callB (call_isX T.obj) (by rfl) T.b_isinstance PyProof.Rows.boot_isinstance (pa_cons (pv 0) (pa_cons (pe_glob rfl TE.eTooShort.1 rfl) pa_nil))) (pa_cons (pe_callB (call_isX T.obj) (by rfl) T.b_isinstance PyProof.Rows.boot_isinstance (pa_cons (pv 0) (pa_cons (pe_glob rfl TE.eBadLine.1 rfl) pa_nil))) (pa_cons (pe_callB (call_isX T.obj) (by rfl) T.b_isinstance PyProof.Rows.boot_isinstance (pa_cons (pv 0) (pa_cons (pe_glob rfl T.oOtherFrame.1 rfl) pa_nil))) (pa_cons (pe_callB (call_isX T.obj) (by rfl) T.b_isinstance PyProof.Rows.boot_isinstance (pa_cons (pv 0) (pa_cons (pe_glob rfl T.oNoColumns.1 rfl) pa_nil))) pa_nil))))))) (pss_one (ps_ret (pe_op op_cat (pv 1) (pe_lst (pa_cons (pe_callB (call_isX T.obj) (by rfl) T.b_isinstance PyProof.Rows.boot_isinstance (pa_cons (pv 0) (pa_cons (pe_glob rfl T.oOtherShape.1 rfl) pa_nil))) (pa_cons (pe_callB (call_isX T.obj) (by rfl) T.b_isinstance PyProof.Rows.boot_isinstance (pa_cons (pv 0) (pa_cons (pe_glob rfl T.oClosedWeb.1 rfl) pa_nil))) (pa_cons (pe_callB (call_isX T.obj) (by rfl) T.b_isinstance PyProof.Rows.boot_isinstance (pa_cons (pv 0) (pa_cons (pe_glob rfl T.oNoForecast.1 rfl) pa_nil))) (pa_cons (pe_callB (call_isX T.obj) (by rfl) T.b_isinstance PyProof.Rows.boot_isinstance (pa_cons (pv 0) (pa_cons (pe_glob rfl T.oNothing.1 rfl) pa_nil))) pa_nil)))))))))))))
/-- the scope of a comprehension -/
def lcScope : Expr → Scope
  | .ListComp _ _ sc _ => sc
  | _ => defScope (.Pass ⟨0, 0, 0, 0⟩)
def lastCmp : Stmt → Expr
  | .Return (some (.Compare _ _ [b] _)) _ => b
  | _ => .Constant .none 0 ⟨0, 0, 0, 0⟩
def lastBits : Expr := lastCmp ((defBody sLaw).getD 3 (.Pass ⟨0, 0, 0, 0⟩))
theorem ok_law (F : Fun K "law" "law" sLaw f fd) (T : Txt K mg cl S) (TE : TxtE P w K mg base cl) (GT : DefOk P w K mg base 1 "_law_tape" ["script", "start"] (spTape K)) (GA : DefOk P w K mg base 3 "_law_any" ["tape"] (spAny K)) (GK : DefOk P w K mg base 4 "_law_kept" ["thing"] (spRows cl 18)) (GS : DefOk P w K mg base 1 "_law_sorts" ["error"] (spSorts cl)) :
    FnG P w K mg base 5 f fd ["script"] (spLaw K) := by
  refine FnG.of F qLaw (fun vs H Q E h => ?_) (fun cdv A out s H vs Q E hc hr h => ⟨t_law K cl S, PSs.nox ?_, pure_law T.tab vs H Q E h⟩)
  · obtain ⟨_, _, rfl, _⟩ := h
    rfl
  · exact (pss_cons (ps_for PassesOwn.never rfl (pi_range1 rfl T.b_range (pa_cons (pe_callB (call_max2 rfl) (by rfl) T.b_max PyProof.Rows.boot_max (pa_cons pe_int (pa_cons (pe_callB (call_min2 rfl) (by rfl) T.b_min PyProof.Rows.boot_min (pa_cons pe_int (pa_cons (pe_callB call_len_seq (by rfl) T.b_len PySem.boot_len (pa_cons (pv 0) pa_nil)) pa_nil))) pa_nil))) pa_nil)) (pg_name (i := 1) qLaw.nd rfl (Or.inl rfl)) (pss_cons (ps_set (i := 2) qLaw.nd rfl (Or.inl rfl) (pe_d GT (hr.mono (by decide)) rfl (pa_cons (pv 0) (pa_cons (pv 1) pa_nil)))) (pss_one (ps_for PassesOwn.never rfl (pi_range1 rfl T.b_range (pa_cons pe_int pa_nil)) (pg_name (i := 3) qLaw.nd rfl (Or.inl rfl)) (pss_cons (ps_set (i := 4) qLaw.nd rfl (Or.inl rfl) (pe_d GA (hr.mono (by decide)) rfl (pa_cons (pv 2) pa_nil))) (pss_cons (ps_set (i := 5) qLaw.nd rfl (Or.inl rfl) (pe_callB (call_reprD hc hr.units) (by rfl) T.b_repr PyProof.Rows.boot_repr (pa_cons (pv 4) pa_nil))) (pss_one (ps_for PassesOwn.never rfl (pi_enum rfl T.b_enumerate (pa_cons (pe_d GK hr rfl (pa_cons (pv 4) pa_nil)) pa_nil)) (pg_tup rfl (pgs_cons (pg_name (i := 6) qLaw.nd rfl (Or.inr rfl)) (pgs_cons (pg_name (i := 7) qLaw.nd rfl (Or.inl rfl)) pgs_nil))) (pss_cons (ps_for PassesOwn.never rfl (pi_tup (pe_slice sl_tup (pv 7) po_none (po_some pe_int))) (pg_name (i := 8) qLaw.nd rfl (Or.inl rfl)) (pss_cons (ps_if (PW.pt (pw_or (pt_not (pt_val (pe_callB (call_isX T.obj) (by rfl) T.b_isinstance PyProof.Rows.boot_isinstance (pa_cons (pv 8) (pa_cons (pe_glob rfl T.spark rfl) pa_nil))))) (pw_or1 (pt_not (pt_val (pe_callB (call_isX T.obj) (by rfl) T.b_isinstance PyProof.Rows.boot_isinstance (pa_cons (pv 8) (pa_cons (pe_bltn (by rfl) T.b_ValueError PyProof.Rows.Boot.«ValueError» rfl) pa_nil)))))))) (pss_one (ps_ret pe_bl)) pss_nil) (pss_one (ps_if (pt_cmpR (op_neD hr.units) (pe_d GS (hr.mono (by decide)) rfl (pa_cons (pv 8) pa_nil)) (pe_lc (own := [("k", 10)]) rfl qLaw.nd (pi_range1 rfl T.b_range (pa_cons pe_int pa_nil)) (blkOk_by (N := NLaw) (sc := defScope sLaw) (by decide +kernel)) (fun _ _ _ _ _ => (pg_name (i := 10) qLaw.nd rfl (Or.inl rfl))) (fun _ _ _ _ _ => pts_nil) (fun _ _ _ _ _ => (pe_cmpR op_eq (pv 10) (pv 6) (nomark _)))) (nomark _)) (pss_one (ps_ret pe_bl)) pss_nil)))) (pss_one (ps_if (pt_cmpR (op_neD hr.units) (pe_lst (pa_cons (pe_callB (call_reprD hc hr.units) (by rfl) T.b_repr PyProof.Rows.boot_repr (pa_cons (pe_ix ix_tup (pv 7) pe_int (fun _ _ => rfl)) pa_nil)) (pa_cons (pe_callB (call_reprD hc hr.units) (by rfl) T.b_repr PyProof.Rows.boot_repr (pa_cons (pe_ix ix_tup (pv 7) pe_int (fun _ _ => rfl)) pa_nil)) (pa_cons (pe_callB (call_reprD hc hr.units) (by rfl) T.b_repr PyProof.Rows.boot_repr (pa_cons (pv 4) pa_nil)) pa_nil)))) (pe_op op_rep (pe_lst (pa_cons (pv 5) pa_nil)) pe_int) (nomark _)) (pss_one (ps_ret pe_bl)) pss_nil))))))))))) (pss_cons (ps_set (i := 9) qLaw.nd rfl (Or.inl rfl) (pe_lst (pa_cons (pe_e0 T.oOtherFrame rfl) (pa_cons (pe_e0 T.oNoColumns rfl) (pa_cons (pe_e0 T.oOtherShape rfl) (pa_cons (pe_e0 T.oClosedWeb rfl) (pa_cons (pe_e0 T.oNoForecast rfl) (pa_cons (pe_e0 T.oNothing rfl) pa_nil)))))))) (pss_cons (ps_if (pt_cmpR op_in_seq pe_bl (pe_lc (own := [("error", 8)]) rfl qLaw.nd (pi_list (pv 9)) (blkOk_by (N := NLaw) (sc := defScope sLaw) (by decide +kernel)) (fun _ _ _ _ _ => (pg_name (i := 8) qLaw.nd rfl (Or.inl rfl))) (fun _ _ _ _ _ => pts_nil) (fun _ _ _ _ _ => (pe_and (pe_callB (call_isX T.obj) (by rfl) T.b_isinstance PyProof.Rows.boot_isinstance (pa_cons (pv 8) (pa_cons (pe_glob rfl T.spark rfl) pa_nil))) (pe_one (pe_callB (call_isX T.obj) (by rfl) T.b_isinstance PyProof.Rows.boot_isinstance (pa_cons (pv 8) (pa_cons (pe_bltn (by rfl) T.b_ValueError PyProof.Rows.Boot.«ValueError» rfl) pa_nil))))))) (by rfl)) (pss_one (ps_ret pe_bl)) pss_nil) (pss_one (ps_ret (pe_cmpR (op_eqD hr.units) (pe_lc (own := [("error", 8)]) rfl qLaw.nd (pi_list (pv 9)) (blkOk_by (N := NLaw) (sc := defScope sLaw) (by decide +kernel)) (fun _ _ _ _ _ => (pg_name (i := 8) qLaw.nd rfl (Or.inl rfl))) (fun _ _ _ _ _ => pts_nil) (fun _ _ _ _ _ => (pe_d GS (hr.mono (by decide)) rfl (pa_cons (pv 8) pa_nil)))) (pe_lc (own := [("at", 6)]) rfl qLaw.nd (pi_range2 rfl T.b_range (pa_cons pe_int (pa_cons pe_int pa_nil))) (blkOk_by (N := NLaw) (sc := defScope sLaw) (by decide +kernel)) (fun _ _ _ _ _ => (pg_name (i := 6) qLaw.nd rfl (Or.inr rfl))) (fun _ _ _ _ _ => pts_nil) (fun _ _ _ _ _ => (pe_lc (own := [("k", 10)]) rfl qLaw.nd (pi_range1 rfl T.b_range (pa_cons pe_int pa_nil)) (blkOk_by (N := NLaw) (sc := relS (lcScope lastBits) (defScope sLaw)) (by decide +kernel)) (fun _ _ _ _ _ => (pg_name (i := 10) qLaw.nd rfl (Or.inl rfl))) (fun _ _ _ _ _ => pts_nil) (fun _ _ _ _ _ => (pe_cmpR op_eq (pv 10) (pv 6) (nomark _)))))) (nomark _)))))))
end
end K1

set_option maxHeartbeats 4000000
namespace K1
open PySem PySem.Spec PyProof.Rows L2 Tp
/-- every two of the classes are told apart; each is a SparkError and a ValueError -/
def kitTab (K : PySem.W.Frag) (cs : List Addr) (S : Addr) : Bool :=
  (List.range cs.length).all fun i => (PySem.W.kitOne K (.ref (cs.getD i 0)) (.ref S) == some true) && (PySem.W.kitOne K (.ref (cs.getD i 0)) (.type "ValueError") == some true) &&
    (List.range cs.length).all fun j => PySem.W.kitOne K (.ref (cs.getD i 0)) (.ref (cs.getD j 0)) == some (decide (j = i))
theorem oex_mk {K : PySem.W.Frag} {C N : Addr} {nm q : Str} {bs bm : List Value} {sn : List Str} {sub : List Value} {ab : Bool} {col : Option Bool} {dd : Option Addr} {m0 m1 m2 m3 m5 : Option Value}
    (l : K.lookup C = some (excClassObj nm q C N bs bm true sn sub ab col dd m0 m1 m2 m3 m5 "ValueError.__new__")) (r : PySem.HandSPX.refsVE bm = true)
    (sa : PySem.W.findIn K (.ref C) "__setattr__" = some (some (.builtin "object.__setattr__"))) (ex : PySem.W.subIn K (.ref C) (.type "BaseException") = some true) (ty : PySem.W.typeIn K (.ref C) = some (.type "type")) (kp : PySem.W.keepIn K (.ref C) = true) : OexC K C :=
  ⟨⟨nm, q, N, bs, bm, sn, sub, ab, col, dd, m0, m1, m2, m3, m5, l, r⟩, sa, ex, ty, kp⟩
def FunAt (K : PySem.W.Frag) (x qual : Str) (st : Stmt) (f : Addr) : Prop := ∃ fd, Fun K x qual st f fd
section
variable {K : PySem.W.Frag} {cs : List Addr} {S : Addr}
theorem kit_all (h : kitTab K cs S = true) {i : Nat} (hi : i < cs.length) : PySem.W.kitOne K (.ref (cs.getD i 0)) (.ref S) = some true ∧ PySem.W.kitOne K (.ref (cs.getD i 0)) (.type "ValueError") = some true ∧
    ∀ j, j < cs.length → PySem.W.kitOne K (.ref (cs.getD i 0)) (.ref (cs.getD j 0)) = some (decide (j = i)) := by
  have q := List.all_eq_true.mp h i (List.mem_range.mpr hi)
  simp only [Bool.and_eq_true, beq_iff_eq, List.all_eq_true, List.mem_range] at q
  exact ⟨q.1.1, q.1.2, q.2⟩
end
theorem def_ok {P : Program} {w : World} {K : PySem.W.Frag} {mg : Str → Option Value} {base : Heap} {k : Nat} {x : Str} {ps : List Str} {sp : Sp} {st : Stmt} {f : Addr} {h : Heap} (X : K.In h) (G : h.Ns mainGlobals mg) (a : PySem.W.nsIn K mainGlobals x = some (some (.ref f))) (F : FunAt K x x st f)
    (b : ∀ (kV doc pm : Value) (an : Option Addr) (cdv ct : Value) (us : List Value), us.length = ps.length → bindArgs (PySem.W.fnOf x x (defArgs st) (defBody st) (defScope st) .none kV doc pm an cdv ct) ⟨us, []⟩ = pure (ps.zip us))
    (ok : ∀ fd, Fun K x x st f fd → FnOk P w K mg base CX0 k f fd ps sp) : DefOk P w K mg base k x ps sp := by
  obtain ⟨fd, F⟩ := F
  exact ⟨f, fd, PySem.W.mg_of X G a, F.kp, F.binds b, ok fd F⟩
theorem err_ok {P : Program} {w : World} {K : PySem.W.Frag} {mg : Str → Option Value} {base : Heap} {x f qual : Str} {st : Stmt} {C fI : Addr} {h : Heap} (X : K.In h) (G : h.Ns mainGlobals mg) (a : PySem.W.nsIn K mainGlobals x = some (some (.ref C))) (T : XCls K C fI f) (F : FunAt K "__init__" qual st fI)
    (b : ∀ (kV doc pm : Value) (an : Option Addr) (cdv ct : Value) (us : List Value), us.length = (["self", f] : List Str).length → bindArgs (PySem.W.fnOf "__init__" qual (defArgs st) (defBody st) (defScope st) .none kV doc pm an cdv ct) ⟨us, []⟩ = pure ((["self", f] : List Str).zip us))
    (bk : ∀ (kV doc pm : Value) (an : Option Addr) (cdv ct z u : Value), bindArgs (PySem.W.fnOf "__init__" qual (defArgs st) (defBody st) (defScope st) .none kV doc pm an cdv ct) ⟨[z], [(f, u)]⟩ = pure ((["self", f] : List Str).zip [z, u]))
    (ok : ∀ fd, Fun K "__init__" qual st fI fd → FnOk P w K mg base CX0 1 fI fd ["self", f] (spInit C f)) : ErrOk P w K mg base x C f := by
  obtain ⟨fd, F⟩ := F
  refine ⟨PySem.W.mg_of X G a, fI, fd, T, ok fd F, F.binds b, fun s z u _ => ?_⟩
  obtain ⟨oc, od, kV, doc, pm, an, cdv, ct, osl, rfl, lk, hcd⟩ := F.ex
  exact .of_eq (bk kV doc pm an cdv ct z u)
theorem assemble {l : PySem.W.OpenLaw} {w : World} {K : PySem.W.Frag} {h : Heap} {mg : Str → Option Value} {fa S C0 C1 C2 C3 C4 C5 C6 C7 C8 C9 C10 C11 C12 C13 C14 C15 C16 C17 C18 C19 C20 C21 C22 C23 f0 f1 f2 f3 f4 f5 f6 f7 f8 f9 f10 f11 f12 f13 f14 f15 f16 f17 fT fP fO fA fV fK fQ fL : Addr} (X : K.In h) (G : h.Ns mainGlobals mg) (hfa : mg "law" = some (.ref fa))
    (aS : PySem.W.nsIn K mainGlobals "SparkError" = some (some (.ref S)))
    (a0 : PySem.W.nsIn K mainGlobals "BadWidth" = some (some (.ref C0)))
    (a1 : PySem.W.nsIn K mainGlobals "BadPairs" = some (some (.ref C1)))
    (a2 : PySem.W.nsIn K mainGlobals "BadColumns" = some (some (.ref C2)))
    (a3 : PySem.W.nsIn K mainGlobals "BadCell" = some (some (.ref C3)))
    (a4 : PySem.W.nsIn K mainGlobals "NoSeat" = some (some (.ref C4)))
    (a5 : PySem.W.nsIn K mainGlobals "BadSeats" = some (some (.ref C5)))
    (a6 : PySem.W.nsIn K mainGlobals "BadTable" = some (some (.ref C6)))
    (a7 : PySem.W.nsIn K mainGlobals "BadTimes" = some (some (.ref C7)))
    (a8 : PySem.W.nsIn K mainGlobals "NoWeb" = some (some (.ref C8)))
    (a9 : PySem.W.nsIn K mainGlobals "BadPrices" = some (some (.ref C9)))
    (a10 : PySem.W.nsIn K mainGlobals "BadSize" = some (some (.ref C10)))
    (a11 : PySem.W.nsIn K mainGlobals "CannotJoin" = some (some (.ref C11)))
    (a12 : PySem.W.nsIn K mainGlobals "IsIn" = some (some (.ref C12)))
    (a13 : PySem.W.nsIn K mainGlobals "NotIn" = some (some (.ref C13)))
    (a14 : PySem.W.nsIn K mainGlobals "BadNeed" = some (some (.ref C14)))
    (a15 : PySem.W.nsIn K mainGlobals "BadColumn" = some (some (.ref C15)))
    (a16 : PySem.W.nsIn K mainGlobals "TooShort" = some (some (.ref C16)))
    (a17 : PySem.W.nsIn K mainGlobals "BadLine" = some (some (.ref C17)))
    (a18 : PySem.W.nsIn K mainGlobals "OtherFrame" = some (some (.ref C18)))
    (a19 : PySem.W.nsIn K mainGlobals "NoColumns" = some (some (.ref C19)))
    (a20 : PySem.W.nsIn K mainGlobals "OtherShape" = some (some (.ref C20)))
    (a21 : PySem.W.nsIn K mainGlobals "ClosedWeb" = some (some (.ref C21)))
    (a22 : PySem.W.nsIn K mainGlobals "NoForecast" = some (some (.ref C22)))
    (a23 : PySem.W.nsIn K mainGlobals "Nothing" = some (some (.ref C23)))
    (i0 : PySem.W.findIn K (.ref C0) "__init__" = some (some (.ref f0)))
    (t0 : PySem.W.typeIn K (.ref f0) = some (.type "function"))
    (n0 : PySem.W.findIn K (.ref C0) "value" = some none)
    (x0 : OexC K C0)
    (u0 : FunAt K "__init__" "BadWidth.__init__" iBadWidth f0)
    (y0 : XIs K C0)
    (i1 : PySem.W.findIn K (.ref C1) "__init__" = some (some (.ref f1)))
    (t1 : PySem.W.typeIn K (.ref f1) = some (.type "function"))
    (n1 : PySem.W.findIn K (.ref C1) "value" = some none)
    (x1 : OexC K C1)
    (u1 : FunAt K "__init__" "BadPairs.__init__" iBadPairs f1)
    (y1 : XIs K C1)
    (i2 : PySem.W.findIn K (.ref C2) "__init__" = some (some (.ref f2)))
    (t2 : PySem.W.typeIn K (.ref f2) = some (.type "function"))
    (n2 : PySem.W.findIn K (.ref C2) "value" = some none)
    (x2 : OexC K C2)
    (u2 : FunAt K "__init__" "BadColumns.__init__" iBadColumns f2)
    (y2 : XIs K C2)
    (i3 : PySem.W.findIn K (.ref C3) "__init__" = some (some (.ref f3)))
    (t3 : PySem.W.typeIn K (.ref f3) = some (.type "function"))
    (n3 : PySem.W.findIn K (.ref C3) "value" = some none)
    (x3 : OexC K C3)
    (u3 : FunAt K "__init__" "BadCell.__init__" iBadCell f3)
    (y3 : XIs K C3)
    (i4 : PySem.W.findIn K (.ref C4) "__init__" = some (some (.ref f4)))
    (t4 : PySem.W.typeIn K (.ref f4) = some (.type "function"))
    (n4 : PySem.W.findIn K (.ref C4) "value" = some none)
    (x4 : OexC K C4)
    (u4 : FunAt K "__init__" "NoSeat.__init__" iNoSeat f4)
    (y4 : XIs K C4)
    (i5 : PySem.W.findIn K (.ref C5) "__init__" = some (some (.ref f5)))
    (t5 : PySem.W.typeIn K (.ref f5) = some (.type "function"))
    (n5 : PySem.W.findIn K (.ref C5) "value" = some none)
    (x5 : OexC K C5)
    (u5 : FunAt K "__init__" "BadSeats.__init__" iBadSeats f5)
    (y5 : XIs K C5)
    (i6 : PySem.W.findIn K (.ref C6) "__init__" = some (some (.ref f6)))
    (t6 : PySem.W.typeIn K (.ref f6) = some (.type "function"))
    (n6 : PySem.W.findIn K (.ref C6) "value" = some none)
    (x6 : OexC K C6)
    (u6 : FunAt K "__init__" "BadTable.__init__" iBadTable f6)
    (y6 : XIs K C6)
    (i7 : PySem.W.findIn K (.ref C7) "__init__" = some (some (.ref f7)))
    (t7 : PySem.W.typeIn K (.ref f7) = some (.type "function"))
    (n7 : PySem.W.findIn K (.ref C7) "value" = some none)
    (x7 : OexC K C7)
    (u7 : FunAt K "__init__" "BadTimes.__init__" iBadTimes f7)
    (y7 : XIs K C7)
    (i8 : PySem.W.findIn K (.ref C8) "__init__" = some (some (.ref f8)))
    (t8 : PySem.W.typeIn K (.ref f8) = some (.type "function"))
    (n8 : PySem.W.findIn K (.ref C8) "value" = some none)
    (x8 : OexC K C8)
    (u8 : FunAt K "__init__" "NoWeb.__init__" iNoWeb f8)
    (y8 : XIs K C8)
    (i9 : PySem.W.findIn K (.ref C9) "__init__" = some (some (.ref f9)))
    (t9 : PySem.W.typeIn K (.ref f9) = some (.type "function"))
    (n9 : PySem.W.findIn K (.ref C9) "value" = some none)
    (x9 : OexC K C9)
    (u9 : FunAt K "__init__" "BadPrices.__init__" iBadPrices f9)
    (y9 : XIs K C9)
    (i10 : PySem.W.findIn K (.ref C10) "__init__" = some (some (.ref f10)))
    (t10 : PySem.W.typeIn K (.ref f10) = some (.type "function"))
    (n10 : PySem.W.findIn K (.ref C10) "value" = some none)
    (x10 : OexC K C10)
    (u10 : FunAt K "__init__" "BadSize.__init__" iBadSize f10)
    (y10 : XIs K C10)
    (i11 : PySem.W.findIn K (.ref C11) "__init__" = some (some (.ref f11)))
    (t11 : PySem.W.typeIn K (.ref f11) = some (.type "function"))
    (n11 : PySem.W.findIn K (.ref C11) "value" = some none)
    (x11 : OexC K C11)
    (u11 : FunAt K "__init__" "CannotJoin.__init__" iCannotJoin f11)
    (y11 : XIs K C11)
    (i12 : PySem.W.findIn K (.ref C12) "__init__" = some (some (.ref f12)))
    (t12 : PySem.W.typeIn K (.ref f12) = some (.type "function"))
    (n12 : PySem.W.findIn K (.ref C12) "value" = some none)
    (x12 : OexC K C12)
    (u12 : FunAt K "__init__" "IsIn.__init__" iIsIn f12)
    (y12 : XIs K C12)
    (i13 : PySem.W.findIn K (.ref C13) "__init__" = some (some (.ref f13)))
    (t13 : PySem.W.typeIn K (.ref f13) = some (.type "function"))
    (n13 : PySem.W.findIn K (.ref C13) "value" = some none)
    (x13 : OexC K C13)
    (u13 : FunAt K "__init__" "NotIn.__init__" iNotIn f13)
    (y13 : XIs K C13)
    (i14 : PySem.W.findIn K (.ref C14) "__init__" = some (some (.ref f14)))
    (t14 : PySem.W.typeIn K (.ref f14) = some (.type "function"))
    (n14 : PySem.W.findIn K (.ref C14) "value" = some none)
    (x14 : OexC K C14)
    (u14 : FunAt K "__init__" "BadNeed.__init__" iBadNeed f14)
    (y14 : XIs K C14)
    (i15 : PySem.W.findIn K (.ref C15) "__init__" = some (some (.ref f15)))
    (t15 : PySem.W.typeIn K (.ref f15) = some (.type "function"))
    (n15 : PySem.W.findIn K (.ref C15) "number" = some none)
    (x15 : OexC K C15)
    (u15 : FunAt K "__init__" "BadColumn.__init__" iBadColumn f15)
    (y15 : XIs K C15)
    (i16 : PySem.W.findIn K (.ref C16) "__init__" = some (some (.ref f16)))
    (t16 : PySem.W.typeIn K (.ref f16) = some (.type "function"))
    (n16 : PySem.W.findIn K (.ref C16) "many" = some none)
    (x16 : OexC K C16)
    (u16 : FunAt K "__init__" "TooShort.__init__" iTooShort f16)
    (y16 : XIs K C16)
    (i17 : PySem.W.findIn K (.ref C17) "__init__" = some (some (.ref f17)))
    (t17 : PySem.W.typeIn K (.ref f17) = some (.type "function"))
    (n17 : PySem.W.findIn K (.ref C17) "line" = some none)
    (x17 : OexC K C17)
    (u17 : FunAt K "__init__" "BadLine.__init__" iBadLine f17)
    (y17 : XIs K C17)
    (x18 : PySem.W.excIn K C18 [.type "ValueError", .type "Exception", .type "BaseException", .type "object"] "ValueError.__new__" = true)
    (k18 : PySem.W.keepIn K (.ref C18) = true)
    (y18 : XIs K C18)
    (x19 : PySem.W.excIn K C19 [.type "ValueError", .type "Exception", .type "BaseException", .type "object"] "ValueError.__new__" = true)
    (k19 : PySem.W.keepIn K (.ref C19) = true)
    (y19 : XIs K C19)
    (x20 : PySem.W.excIn K C20 [.type "ValueError", .type "Exception", .type "BaseException", .type "object"] "ValueError.__new__" = true)
    (k20 : PySem.W.keepIn K (.ref C20) = true)
    (y20 : XIs K C20)
    (x21 : PySem.W.excIn K C21 [.type "ValueError", .type "Exception", .type "BaseException", .type "object"] "ValueError.__new__" = true)
    (k21 : PySem.W.keepIn K (.ref C21) = true)
    (y21 : XIs K C21)
    (x22 : PySem.W.excIn K C22 [.type "ValueError", .type "Exception", .type "BaseException", .type "object"] "ValueError.__new__" = true)
    (k22 : PySem.W.keepIn K (.ref C22) = true)
    (y22 : XIs K C22)
    (x23 : PySem.W.excIn K C23 [.type "ValueError", .type "Exception", .type "BaseException", .type "object"] "ValueError.__new__" = true)
    (k23 : PySem.W.keepIn K (.ref C23) = true)
    (y23 : XIs K C23)
    (kit : kitTab K [C0, C1, C2, C3, C4, C5, C6, C7, C8, C9, C10, C11, C12, C13, C14, C15, C16, C17, C18, C19, C20, C21, C22, C23] S = true)
    (obj : XObj K)
    (aT : PySem.W.nsIn K mainGlobals "_law_tape" = some (some (.ref fT)))
    (uT : FunAt K "_law_tape" "_law_tape" sTape fT)
    (aP : PySem.W.nsIn K mainGlobals "_law_pick" = some (some (.ref fP)))
    (uP : FunAt K "_law_pick" "_law_pick" sPick fP)
    (aO : PySem.W.nsIn K mainGlobals "_law_one_of" = some (some (.ref fO)))
    (uO : FunAt K "_law_one_of" "_law_one_of" sOne fO)
    (aA : PySem.W.nsIn K mainGlobals "_law_any" = some (some (.ref fA)))
    (uA : FunAt K "_law_any" "_law_any" sAny fA)
    (aV : PySem.W.nsIn K mainGlobals "_law_valued" = some (some (.ref fV)))
    (uV : FunAt K "_law_valued" "_law_valued" sValued fV)
    (aK : PySem.W.nsIn K mainGlobals "_law_kept" = some (some (.ref fK)))
    (uK : FunAt K "_law_kept" "_law_kept" sKept fK)
    (aQ : PySem.W.nsIn K mainGlobals "_law_sorts" = some (some (.ref fQ)))
    (uQ : FunAt K "_law_sorts" "_law_sorts" sSorts fQ)
    (aL : PySem.W.nsIn K mainGlobals "law" = some (some (.ref fL)))
    (uL : FunAt K "law" "law" sLaw fL)
    (zint : PySem.W.nsIn K mainGlobals "int" = some none)
    (zlen : PySem.W.nsIn K mainGlobals "len" = some none)
    (zisinstance : PySem.W.nsIn K mainGlobals "isinstance" = some none)
    (zrepr : PySem.W.nsIn K mainGlobals "repr" = some none)
    (zrange : PySem.W.nsIn K mainGlobals "range" = some none)
    (zmax : PySem.W.nsIn K mainGlobals "max" = some none)
    (zmin : PySem.W.nsIn K mainGlobals "min" = some none)
    (zenumerate : PySem.W.nsIn K mainGlobals "enumerate" = some none)
    (zValueError : PySem.W.nsIn K mainGlobals "ValueError" = some none) :
    ∃ fd : FuncData, (∀ (s : Shared) (v : Value), BindsTo s fd ⟨[v], []⟩ [("script", v)]) ∧ ∀ base : Heap, K.In base → base.Ns mainGlobals mg → FnG l.prog w K mg base 5 fa fd ["script"] (spLaw K) := by
  have e : fa = fL := Value.ref.inj (Option.some.inj (hfa.symm.trans (PySem.W.mg_of X G aL)))
  subst e
  let cs : List Addr := [C0, C1, C2, C3, C4, C5, C6, C7, C8, C9, C10, C11, C12, C13, C14, C15, C16, C17, C18, C19, C20, C21, C22, C23]
  let cl : Nat → Addr := fun i => cs.getD i 0
  have hlen : cs.length = 24 := rfl
  have tab : ErrTab K cl S := {
    is := fun i hi => match i, hi with
      | 0, _ => y0
      | 1, _ => y1
      | 2, _ => y2
      | 3, _ => y3
      | 4, _ => y4
      | 5, _ => y5
      | 6, _ => y6
      | 7, _ => y7
      | 8, _ => y8
      | 9, _ => y9
      | 10, _ => y10
      | 11, _ => y11
      | 12, _ => y12
      | 13, _ => y13
      | 14, _ => y14
      | 15, _ => y15
      | 16, _ => y16
      | 17, _ => y17
      | 18, _ => y18
      | 19, _ => y19
      | 20, _ => y20
      | 21, _ => y21
      | 22, _ => y22
      | 23, _ => y23
      | n + 24, h => absurd h (by omega)
    no := fun i hi => match i, hi with
      | 0, _ => n0
      | 1, _ => n1
      | 2, _ => n2
      | 3, _ => n3
      | 4, _ => n4
      | 5, _ => n5
      | 6, _ => n6
      | 7, _ => n7
      | 8, _ => n8
      | 9, _ => n9
      | 10, _ => n10
      | 11, _ => n11
      | 12, _ => n12
      | 13, _ => n13
      | 14, _ => n14
      | 15, _ => n15
      | 16, _ => n16
      | 17, _ => n17
      | n + 18, h => absurd h (by omega)
    kit := fun i j hi hj => (kit_all (cs := cs) kit (by omega)).2.2 j (by omega)
    spark := fun i hi => (kit_all (cs := cs) kit (by omega)).1
    val := fun i hi => (kit_all (cs := cs) kit (by omega)).2.1 }
  have T : Txt K mg cl S := {
    tab := tab
    obj := obj
    spark := PySem.W.mg_of X G aS
    b_int := PySem.W.mg_none_of X G zint
    b_len := PySem.W.mg_none_of X G zlen
    b_isinstance := PySem.W.mg_none_of X G zisinstance
    b_repr := PySem.W.mg_none_of X G zrepr
    b_range := PySem.W.mg_none_of X G zrange
    b_max := PySem.W.mg_none_of X G zmax
    b_min := PySem.W.mg_none_of X G zmin
    b_enumerate := PySem.W.mg_none_of X G zenumerate
    b_ValueError := PySem.W.mg_none_of X G zValueError
    oOtherFrame := ⟨PySem.W.mg_of X G a18, x18, k18⟩
    oNoColumns := ⟨PySem.W.mg_of X G a19, x19, k19⟩
    oOtherShape := ⟨PySem.W.mg_of X G a20, x20, k20⟩
    oClosedWeb := ⟨PySem.W.mg_of X G a21, x21, k21⟩
    oNoForecast := ⟨PySem.W.mg_of X G a22, x22, k22⟩
    oNothing := ⟨PySem.W.mg_of X G a23, x23, k23⟩ }
  have TE : ∀ base, TxtE l.prog w K mg base cl := fun base => {
    eBadWidth := err_ok X G a0 ⟨x0, i0, t0, n0⟩ u0 (fun _ _ _ _ _ _ us hl => match us, hl with | [_, _], _ => rfl) (fun _ _ _ _ _ _ _ _ => rfl) fun _ F => kBadWidth F x0 n0
    eBadPairs := err_ok X G a1 ⟨x1, i1, t1, n1⟩ u1 (fun _ _ _ _ _ _ us hl => match us, hl with | [_, _], _ => rfl) (fun _ _ _ _ _ _ _ _ => rfl) fun _ F => kBadPairs F x1 n1
    eBadColumns := err_ok X G a2 ⟨x2, i2, t2, n2⟩ u2 (fun _ _ _ _ _ _ us hl => match us, hl with | [_, _], _ => rfl) (fun _ _ _ _ _ _ _ _ => rfl) fun _ F => kBadColumns F x2 n2
    eBadCell := err_ok X G a3 ⟨x3, i3, t3, n3⟩ u3 (fun _ _ _ _ _ _ us hl => match us, hl with | [_, _], _ => rfl) (fun _ _ _ _ _ _ _ _ => rfl) fun _ F => kBadCell F x3 n3
    eNoSeat := err_ok X G a4 ⟨x4, i4, t4, n4⟩ u4 (fun _ _ _ _ _ _ us hl => match us, hl with | [_, _], _ => rfl) (fun _ _ _ _ _ _ _ _ => rfl) fun _ F => kNoSeat F x4 n4
    eBadSeats := err_ok X G a5 ⟨x5, i5, t5, n5⟩ u5 (fun _ _ _ _ _ _ us hl => match us, hl with | [_, _], _ => rfl) (fun _ _ _ _ _ _ _ _ => rfl) fun _ F => kBadSeats F x5 n5
    eBadTable := err_ok X G a6 ⟨x6, i6, t6, n6⟩ u6 (fun _ _ _ _ _ _ us hl => match us, hl with | [_, _], _ => rfl) (fun _ _ _ _ _ _ _ _ => rfl) fun _ F => kBadTable F x6 n6
    eBadTimes := err_ok X G a7 ⟨x7, i7, t7, n7⟩ u7 (fun _ _ _ _ _ _ us hl => match us, hl with | [_, _], _ => rfl) (fun _ _ _ _ _ _ _ _ => rfl) fun _ F => kBadTimes F x7 n7
    eNoWeb := err_ok X G a8 ⟨x8, i8, t8, n8⟩ u8 (fun _ _ _ _ _ _ us hl => match us, hl with | [_, _], _ => rfl) (fun _ _ _ _ _ _ _ _ => rfl) fun _ F => kNoWeb F x8 n8
    eBadPrices := err_ok X G a9 ⟨x9, i9, t9, n9⟩ u9 (fun _ _ _ _ _ _ us hl => match us, hl with | [_, _], _ => rfl) (fun _ _ _ _ _ _ _ _ => rfl) fun _ F => kBadPrices F x9 n9
    eBadSize := err_ok X G a10 ⟨x10, i10, t10, n10⟩ u10 (fun _ _ _ _ _ _ us hl => match us, hl with | [_, _], _ => rfl) (fun _ _ _ _ _ _ _ _ => rfl) fun _ F => kBadSize F x10 n10
    eCannotJoin := err_ok X G a11 ⟨x11, i11, t11, n11⟩ u11 (fun _ _ _ _ _ _ us hl => match us, hl with | [_, _], _ => rfl) (fun _ _ _ _ _ _ _ _ => rfl) fun _ F => kCannotJoin F x11 n11
    eIsIn := err_ok X G a12 ⟨x12, i12, t12, n12⟩ u12 (fun _ _ _ _ _ _ us hl => match us, hl with | [_, _], _ => rfl) (fun _ _ _ _ _ _ _ _ => rfl) fun _ F => kIsIn F x12 n12
    eNotIn := err_ok X G a13 ⟨x13, i13, t13, n13⟩ u13 (fun _ _ _ _ _ _ us hl => match us, hl with | [_, _], _ => rfl) (fun _ _ _ _ _ _ _ _ => rfl) fun _ F => kNotIn F x13 n13
    eBadNeed := err_ok X G a14 ⟨x14, i14, t14, n14⟩ u14 (fun _ _ _ _ _ _ us hl => match us, hl with | [_, _], _ => rfl) (fun _ _ _ _ _ _ _ _ => rfl) fun _ F => kBadNeed F x14 n14
    eBadColumn := err_ok X G a15 ⟨x15, i15, t15, n15⟩ u15 (fun _ _ _ _ _ _ us hl => match us, hl with | [_, _], _ => rfl) (fun _ _ _ _ _ _ _ _ => rfl) fun _ F => kBadColumn F x15 n15
    eTooShort := err_ok X G a16 ⟨x16, i16, t16, n16⟩ u16 (fun _ _ _ _ _ _ us hl => match us, hl with | [_, _], _ => rfl) (fun _ _ _ _ _ _ _ _ => rfl) fun _ F => kTooShort F x16 n16
    eBadLine := err_ok X G a17 ⟨x17, i17, t17, n17⟩ u17 (fun _ _ _ _ _ _ us hl => match us, hl with | [_, _], _ => rfl) (fun _ _ _ _ _ _ _ _ => rfl) fun _ F => kBadLine F x17 n17 }
  obtain ⟨fdL, FL⟩ := uL
  have bL := FL.binds (ps := ["script"]) (fun _ _ _ _ _ _ us hl => match us, hl with | [_], _ => rfl)
  refine ⟨fdL, fun s v => ?_, fun base hb hn => ?_⟩
  · obtain ⟨oc, od, kV, doc, pm, an, cdv, ct, osl, rfl, lk, hcd⟩ := FL.ex
    exact .of_eq rfl
  · have GP : DefOk l.prog w K mg base 1 "_law_pick" ["tape", "many_here"] spPick := def_ok X G aP uP (fun _ _ _ _ _ _ us hl => match us, hl with | [_, _], _ => rfl) fun _ F => ok_pick F T
    have GO : DefOk l.prog w K mg base 2 "_law_one_of" ["tape", "things"] (spOne K) := def_ok X G aO uO (fun _ _ _ _ _ _ us hl => match us, hl with | [_, _], _ => rfl) fun _ F => ok_one F T GP
    have GA : DefOk l.prog w K mg base 3 "_law_any" ["tape"] (spAny K) := def_ok X G aA uA (fun _ _ _ _ _ _ us hl => match us, hl with | [_], _ => rfl) fun _ F => ok_any F T GO
    have GT : DefOk l.prog w K mg base 1 "_law_tape" ["script", "start"] (spTape K) := def_ok X G aT uT (fun _ _ _ _ _ _ us hl => match us, hl with | [_, _], _ => rfl) fun _ F => ok_tape F T
    have GV : DefOk l.prog w K mg base 3 "_law_valued" ["thing"] (spRows cl 15) := def_ok X G aV uV (fun _ _ _ _ _ _ us hl => match us, hl with | [_], _ => rfl) fun _ F => ok_valued F T (TE base)
    have GK : DefOk l.prog w K mg base 4 "_law_kept" ["thing"] (spRows cl 18) := def_ok X G aK uK (fun _ _ _ _ _ _ us hl => match us, hl with | [_], _ => rfl) fun _ F => ok_kept F T (TE base) GV
    have GS : DefOk l.prog w K mg base 1 "_law_sorts" ["error"] (spSorts cl) := def_ok X G aQ uQ (fun _ _ _ _ _ _ us hl => match us, hl with | [_], _ => rfl) fun _ F => ok_sorts F T (TE base)
    exact ok_law FL T (TE base) GT GA GK GS
end K1

open PySem PySem.W PyProof.Rows in
set_option maxRecDepth 100000 in
set_option maxHeartbeats 0 in
theorem PySem.Challenge.cw_sparkrows_k01_errors_made_holds : PySem.Challenge.rw_sparkrows_k01_errors_made.Holds := by
  w_on; o_law; k_head; (case hw => w_witness2)
  k_fill
  refine Tp.walkLaw (l := PySem.Challenge.rw_sparkrows_k01_errors_made) (n := 63) (k := 5) (x := "script") rfl (by decide) rfl ⟨rfl, by decide, by decide⟩ (fun w h Y => PySem.W.kIn_of Y) Tp.spLaw ?F ?S
  case S =>
    intro K H a ns hl hb hO hS
    exact ⟨a, ns, rfl, ⟨hS, hl, hb⟩, fun _ => rfl⟩
  case F =>
    intro w mg fa h KX G hmg
    refine' K1.assemble KX G hmg ?aS ?a0 ?a1 ?a2 ?a3 ?a4 ?a5 ?a6 ?a7 ?a8 ?a9 ?a10 ?a11 ?a12 ?a13 ?a14 ?a15 ?a16 ?a17 ?a18 ?a19 ?a20 ?a21 ?a22 ?a23 ?i0 ?t0 ?n0 ?x0 ?u0 ?y0 ?i1 ?t1 ?n1 ?x1 ?u1 ?y1 ?i2 ?t2 ?n2 ?x2 ?u2 ?y2 ?i3 ?t3 ?n3 ?x3 ?u3 ?y3 ?i4 ?t4 ?n4 ?x4 ?u4 ?y4 ?i5 ?t5 ?n5 ?x5 ?u5 ?y5 ?i6 ?t6 ?n6 ?x6 ?u6 ?y6 ?i7 ?t7 ?n7 ?x7 ?u7 ?y7 ?i8 ?t8 ?n8 ?x8 ?u8 ?y8 ?i9 ?t9 ?n9 ?x9 ?u9 ?y9 ?i10 ?t10 ?n10 ?x10 ?u10 ?y10 ?i11 ?t11 ?n11 ?x11 ?u11 ?y11 ?i12 ?t12 ?n12 ?x12 ?u12 ?y12 ?i13 ?t13 ?n13 ?x13 ?u13 ?y13 ?i14 ?t14 ?n14 ?x14 ?u14 ?y14 ?i15 ?t15 ?n15 ?x15 ?u15 ?y15 ?i16 ?t16 ?n16 ?x16 ?u16 ?y16 ?i17 ?t17 ?n17 ?x17 ?u17 ?y17 ?x18 ?k18 ?y18 ?x19 ?k19 ?y19 ?x20 ?k20 ?y20 ?x21 ?k21 ?y21 ?x22 ?k22 ?y22 ?x23 ?k23 ?y23 ?kit ?obj ?aT ?uT ?aP ?uP ?aO ?uO ?aA ?uA ?aV ?uV ?aK ?uK ?aQ ?uQ ?aL ?uL ?zint ?zlen ?zisinstance ?zrepr ?zrange ?zmax ?zmin ?zenumerate ?zValueError
    (case aS => k_is)
    (case a0 => k_is)
    (case a1 => k_is)
    (case a2 => k_is)
    (case a3 => k_is)
    (case a4 => k_is)
    (case a5 => k_is)
    (case a6 => k_is)
    (case a7 => k_is)
    (case a8 => k_is)
    (case a9 => k_is)
    (case a10 => k_is)
    (case a11 => k_is)
    (case a12 => k_is)
    (case a13 => k_is)
    (case a14 => k_is)
    (case a15 => k_is)
    (case a16 => k_is)
    (case a17 => k_is)
    (case a18 => k_is)
    (case a19 => k_is)
    (case a20 => k_is)
    (case a21 => k_is)
    (case a22 => k_is)
    (case a23 => k_is)
    (case i0 => k_is)
    (case t0 => k_is)
    (case n0 => k_is)
    (case x0 => (refine' K1.oex_mk ?hx0_l ?hx0_r ?hx0_p2 ?hx0_p3 ?hx0_p4 ?hx0_p5; (case hx0_l => k_is); (case hx0_r => first | rfl | decide +kernel); (case hx0_p2 => k_is); (case hx0_p3 => k_is); (case hx0_p4 => k_is); (case hx0_p5 => k_is)))
    (case u0 => (refine' Exists.intro _ (L2.fun_mk ?hu0_l ?hu0_c ?hu0_k); (case hu0_l => k_is); (case hu0_c => k_is); (case hu0_k => k_is)))
    (case y0 => (refine' ⟨?hy0_p1, ?hy0_p2, ?hy0_p3, ?hy0_p4, ?hy0_p5, ?hy0_p6⟩ <;> k_is))
    (case i1 => k_is)
    (case t1 => k_is)
    (case n1 => k_is)
    (case x1 => (refine' K1.oex_mk ?hx1_l ?hx1_r ?hx1_p2 ?hx1_p3 ?hx1_p4 ?hx1_p5; (case hx1_l => k_is); (case hx1_r => first | rfl | decide +kernel); (case hx1_p2 => k_is); (case hx1_p3 => k_is); (case hx1_p4 => k_is); (case hx1_p5 => k_is)))
    (case u1 => (refine' Exists.intro _ (L2.fun_mk ?hu1_l ?hu1_c ?hu1_k); (case hu1_l => k_is); (case hu1_c => k_is); (case hu1_k => k_is)))
    (case y1 => (refine' ⟨?hy1_p1, ?hy1_p2, ?hy1_p3, ?hy1_p4, ?hy1_p5, ?hy1_p6⟩ <;> k_is))
    (case i2 => k_is)
    (case t2 => k_is)
    (case n2 => k_is)
    (case x2 => (refine' K1.oex_mk ?hx2_l ?hx2_r ?hx2_p2 ?hx2_p3 ?hx2_p4 ?hx2_p5; (case hx2_l => k_is); (case hx2_r => first | rfl | decide +kernel); (case hx2_p2 => k_is); (case hx2_p3 => k_is); (case hx2_p4 => k_is); (case hx2_p5 => k_is)))
    (case u2 => (refine' Exists.intro _ (L2.fun_mk ?hu2_l ?hu2_c ?hu2_k); (case hu2_l => k_is); (case hu2_c => k_is); (case hu2_k => k_is)))
    (case y2 => (refine' ⟨?hy2_p1, ?hy2_p2, ?hy2_p3, ?hy2_p4, ?hy2_p5, ?hy2_p6⟩ <;> k_is))
    (case i3 => k_is)
    (case t3 => k_is)
    (case n3 => k_is)
    (case x3 => (refine' K1.oex_mk ?hx3_l ?hx3_r ?hx3_p2 ?hx3_p3 ?hx3_p4 ?hx3_p5; (case hx3_l => k_is); (case hx3_r => first | rfl | decide +kernel); (case hx3_p2 => k_is); (case hx3_p3 => k_is); (case hx3_p4 => k_is); (case hx3_p5 => k_is)))
    (case u3 => (refine' Exists.intro _ (L2.fun_mk ?hu3_l ?hu3_c ?hu3_k); (case hu3_l => k_is); (case hu3_c => k_is); (case hu3_k => k_is)))
    (case y3 => (refine' ⟨?hy3_p1, ?hy3_p2, ?hy3_p3, ?hy3_p4, ?hy3_p5, ?hy3_p6⟩ <;> k_is))
    (case i4 => k_is)
    (case t4 => k_is)
    (case n4 => k_is)
    (case x4 => (refine' K1.oex_mk ?hx4_l ?hx4_r ?hx4_p2 ?hx4_p3 ?hx4_p4 ?hx4_p5; (case hx4_l => k_is); (case hx4_r => first | rfl | decide +kernel); (case hx4_p2 => k_is); (case hx4_p3 => k_is); (case hx4_p4 => k_is); (case hx4_p5 => k_is)))
    (case u4 => (refine' Exists.intro _ (L2.fun_mk ?hu4_l ?hu4_c ?hu4_k); (case hu4_l => k_is); (case hu4_c => k_is); (case hu4_k => k_is)))
    (case y4 => (refine' ⟨?hy4_p1, ?hy4_p2, ?hy4_p3, ?hy4_p4, ?hy4_p5, ?hy4_p6⟩ <;> k_is))
    (case i5 => k_is)
    (case t5 => k_is)
    (case n5 => k_is)
    (case x5 => (refine' K1.oex_mk ?hx5_l ?hx5_r ?hx5_p2 ?hx5_p3 ?hx5_p4 ?hx5_p5; (case hx5_l => k_is); (case hx5_r => first | rfl | decide +kernel); (case hx5_p2 => k_is); (case hx5_p3 => k_is); (case hx5_p4 => k_is); (case hx5_p5 => k_is)))
    (case u5 => (refine' Exists.intro _ (L2.fun_mk ?hu5_l ?hu5_c ?hu5_k); (case hu5_l => k_is); (case hu5_c => k_is); (case hu5_k => k_is)))
    (case y5 => (refine' ⟨?hy5_p1, ?hy5_p2, ?hy5_p3, ?hy5_p4, ?hy5_p5, ?hy5_p6⟩ <;> k_is))
    (case i6 => k_is)
    (case t6 => k_is)
    (case n6 => k_is)
    (case x6 => (refine' K1.oex_mk ?hx6_l ?hx6_r ?hx6_p2 ?hx6_p3 ?hx6_p4 ?hx6_p5; (case hx6_l => k_is); (case hx6_r => first | rfl | decide +kernel); (case hx6_p2 => k_is); (case hx6_p3 => k_is); (case hx6_p4 => k_is); (case hx6_p5 => k_is)))
    (case u6 => (refine' Exists.intro _ (L2.fun_mk ?hu6_l ?hu6_c ?hu6_k); (case hu6_l => k_is); (case hu6_c => k_is); (case hu6_k => k_is)))
    (case y6 => (refine' ⟨?hy6_p1, ?hy6_p2, ?hy6_p3, ?hy6_p4, ?hy6_p5, ?hy6_p6⟩ <;> k_is))
    (case i7 => k_is)
    (case t7 => k_is)
    (case n7 => k_is)
    (case x7 => (refine' K1.oex_mk ?hx7_l ?hx7_r ?hx7_p2 ?hx7_p3 ?hx7_p4 ?hx7_p5; (case hx7_l => k_is); (case hx7_r => first | rfl | decide +kernel); (case hx7_p2 => k_is); (case hx7_p3 => k_is); (case hx7_p4 => k_is); (case hx7_p5 => k_is)))
    (case u7 => (refine' Exists.intro _ (L2.fun_mk ?hu7_l ?hu7_c ?hu7_k); (case hu7_l => k_is); (case hu7_c => k_is); (case hu7_k => k_is)))
    (case y7 => (refine' ⟨?hy7_p1, ?hy7_p2, ?hy7_p3, ?hy7_p4, ?hy7_p5, ?hy7_p6⟩ <;> k_is))
    (case i8 => k_is)
    (case t8 => k_is)
    (case n8 => k_is)
    (case x8 => (refine' K1.oex_mk ?hx8_l ?hx8_r ?hx8_p2 ?hx8_p3 ?hx8_p4 ?hx8_p5; (case hx8_l => k_is); (case hx8_r => first | rfl | decide +kernel); (case hx8_p2 => k_is); (case hx8_p3 => k_is); (case hx8_p4 => k_is); (case hx8_p5 => k_is)))
    (case u8 => (refine' Exists.intro _ (L2.fun_mk ?hu8_l ?hu8_c ?hu8_k); (case hu8_l => k_is); (case hu8_c => k_is); (case hu8_k => k_is)))
    (case y8 => (refine' ⟨?hy8_p1, ?hy8_p2, ?hy8_p3, ?hy8_p4, ?hy8_p5, ?hy8_p6⟩ <;> k_is))
    (case i9 => k_is)
    (case t9 => k_is)
    (case n9 => k_is)
    (case x9 => (refine' K1.oex_mk ?hx9_l ?hx9_r ?hx9_p2 ?hx9_p3 ?hx9_p4 ?hx9_p5; (case hx9_l => k_is); (case hx9_r => first | rfl | decide +kernel); (case hx9_p2 => k_is); (case hx9_p3 => k_is); (case hx9_p4 => k_is); (case hx9_p5 => k_is)))
    (case u9 => (refine' Exists.intro _ (L2.fun_mk ?hu9_l ?hu9_c ?hu9_k); (case hu9_l => k_is); (case hu9_c => k_is); (case hu9_k => k_is)))
    (case y9 => (refine' ⟨?hy9_p1, ?hy9_p2, ?hy9_p3, ?hy9_p4, ?hy9_p5, ?hy9_p6⟩ <;> k_is))
    (case i10 => k_is)
    (case t10 => k_is)
    (case n10 => k_is)
    (case x10 => (refine' K1.oex_mk ?hx10_l ?hx10_r ?hx10_p2 ?hx10_p3 ?hx10_p4 ?hx10_p5; (case hx10_l => k_is); (case hx10_r => first | rfl | decide +kernel); (case hx10_p2 => k_is); (case hx10_p3 => k_is); (case hx10_p4 => k_is); (case hx10_p5 => k_is)))
    (case u10 => (refine' Exists.intro _ (L2.fun_mk ?hu10_l ?hu10_c ?hu10_k); (case hu10_l => k_is); (case hu10_c => k_is); (case hu10_k => k_is)))
    (case y10 => (refine' ⟨?hy10_p1, ?hy10_p2, ?hy10_p3, ?hy10_p4, ?hy10_p5, ?hy10_p6⟩ <;> k_is))
    (case i11 => k_is)
    (case t11 => k_is)
    (case n11 => k_is)
    (case x11 => (refine' K1.oex_mk ?hx11_l ?hx11_r ?hx11_p2 ?hx11_p3 ?hx11_p4 ?hx11_p5; (case hx11_l => k_is); (case hx11_r => first | rfl | decide +kernel); (case hx11_p2 => k_is); (case hx11_p3 => k_is); (case hx11_p4 => k_is); (case hx11_p5 => k_is)))
    (case u11 => (refine' Exists.intro _ (L2.fun_mk ?hu11_l ?hu11_c ?hu11_k); (case hu11_l => k_is); (case hu11_c => k_is); (case hu11_k => k_is)))
    (case y11 => (refine' ⟨?hy11_p1, ?hy11_p2, ?hy11_p3, ?hy11_p4, ?hy11_p5, ?hy11_p6⟩ <;> k_is))
    (case i12 => k_is)
    (case t12 => k_is)
    (case n12 => k_is)
    (case x12 => (refine' K1.oex_mk ?hx12_l ?hx12_r ?hx12_p2 ?hx12_p3 ?hx12_p4 ?hx12_p5; (case hx12_l => k_is); (case hx12_r => first | rfl | decide +kernel); (case hx12_p2 => k_is); (case hx12_p3 => k_is); (case hx12_p4 => k_is); (case hx12_p5 => k_is)))
    (case u12 => (refine' Exists.intro _ (L2.fun_mk ?hu12_l ?hu12_c ?hu12_k); (case hu12_l => k_is); (case hu12_c => k_is); (case hu12_k => k_is)))
    (case y12 => (refine' ⟨?hy12_p1, ?hy12_p2, ?hy12_p3, ?hy12_p4, ?hy12_p5, ?hy12_p6⟩ <;> k_is))
    (case i13 => k_is)
    (case t13 => k_is)
    (case n13 => k_is)
    (case x13 => (refine' K1.oex_mk ?hx13_l ?hx13_r ?hx13_p2 ?hx13_p3 ?hx13_p4 ?hx13_p5; (case hx13_l => k_is); (case hx13_r => first | rfl | decide +kernel); (case hx13_p2 => k_is); (case hx13_p3 => k_is); (case hx13_p4 => k_is); (case hx13_p5 => k_is)))
    (case u13 => (refine' Exists.intro _ (L2.fun_mk ?hu13_l ?hu13_c ?hu13_k); (case hu13_l => k_is); (case hu13_c => k_is); (case hu13_k => k_is)))
    (case y13 => (refine' ⟨?hy13_p1, ?hy13_p2, ?hy13_p3, ?hy13_p4, ?hy13_p5, ?hy13_p6⟩ <;> k_is))
    (case i14 => k_is)
    (case t14 => k_is)
    (case n14 => k_is)
    (case x14 => (refine' K1.oex_mk ?hx14_l ?hx14_r ?hx14_p2 ?hx14_p3 ?hx14_p4 ?hx14_p5; (case hx14_l => k_is); (case hx14_r => first | rfl | decide +kernel); (case hx14_p2 => k_is); (case hx14_p3 => k_is); (case hx14_p4 => k_is); (case hx14_p5 => k_is)))
    (case u14 => (refine' Exists.intro _ (L2.fun_mk ?hu14_l ?hu14_c ?hu14_k); (case hu14_l => k_is); (case hu14_c => k_is); (case hu14_k => k_is)))
    (case y14 => (refine' ⟨?hy14_p1, ?hy14_p2, ?hy14_p3, ?hy14_p4, ?hy14_p5, ?hy14_p6⟩ <;> k_is))
    (case i15 => k_is)
    (case t15 => k_is)
    (case n15 => k_is)
    (case x15 => (refine' K1.oex_mk ?hx15_l ?hx15_r ?hx15_p2 ?hx15_p3 ?hx15_p4 ?hx15_p5; (case hx15_l => k_is); (case hx15_r => first | rfl | decide +kernel); (case hx15_p2 => k_is); (case hx15_p3 => k_is); (case hx15_p4 => k_is); (case hx15_p5 => k_is)))
    (case u15 => (refine' Exists.intro _ (L2.fun_mk ?hu15_l ?hu15_c ?hu15_k); (case hu15_l => k_is); (case hu15_c => k_is); (case hu15_k => k_is)))
    (case y15 => (refine' ⟨?hy15_p1, ?hy15_p2, ?hy15_p3, ?hy15_p4, ?hy15_p5, ?hy15_p6⟩ <;> k_is))
    (case i16 => k_is)
    (case t16 => k_is)
    (case n16 => k_is)
    (case x16 => (refine' K1.oex_mk ?hx16_l ?hx16_r ?hx16_p2 ?hx16_p3 ?hx16_p4 ?hx16_p5; (case hx16_l => k_is); (case hx16_r => first | rfl | decide +kernel); (case hx16_p2 => k_is); (case hx16_p3 => k_is); (case hx16_p4 => k_is); (case hx16_p5 => k_is)))
    (case u16 => (refine' Exists.intro _ (L2.fun_mk ?hu16_l ?hu16_c ?hu16_k); (case hu16_l => k_is); (case hu16_c => k_is); (case hu16_k => k_is)))
    (case y16 => (refine' ⟨?hy16_p1, ?hy16_p2, ?hy16_p3, ?hy16_p4, ?hy16_p5, ?hy16_p6⟩ <;> k_is))
    (case i17 => k_is)
    (case t17 => k_is)
    (case n17 => k_is)
    (case x17 => (refine' K1.oex_mk ?hx17_l ?hx17_r ?hx17_p2 ?hx17_p3 ?hx17_p4 ?hx17_p5; (case hx17_l => k_is); (case hx17_r => first | rfl | decide +kernel); (case hx17_p2 => k_is); (case hx17_p3 => k_is); (case hx17_p4 => k_is); (case hx17_p5 => k_is)))
    (case u17 => (refine' Exists.intro _ (L2.fun_mk ?hu17_l ?hu17_c ?hu17_k); (case hu17_l => k_is); (case hu17_c => k_is); (case hu17_k => k_is)))
    (case y17 => (refine' ⟨?hy17_p1, ?hy17_p2, ?hy17_p3, ?hy17_p4, ?hy17_p5, ?hy17_p6⟩ <;> k_is))
    (case x18 => first | k_exc | k_is)
    (case k18 => k_is)
    (case y18 => (refine' ⟨?hy18_p1, ?hy18_p2, ?hy18_p3, ?hy18_p4, ?hy18_p5, ?hy18_p6⟩ <;> k_is))
    (case x19 => first | k_exc | k_is)
    (case k19 => k_is)
    (case y19 => (refine' ⟨?hy19_p1, ?hy19_p2, ?hy19_p3, ?hy19_p4, ?hy19_p5, ?hy19_p6⟩ <;> k_is))
    (case x20 => first | k_exc | k_is)
    (case k20 => k_is)
    (case y20 => (refine' ⟨?hy20_p1, ?hy20_p2, ?hy20_p3, ?hy20_p4, ?hy20_p5, ?hy20_p6⟩ <;> k_is))
    (case x21 => first | k_exc | k_is)
    (case k21 => k_is)
    (case y21 => (refine' ⟨?hy21_p1, ?hy21_p2, ?hy21_p3, ?hy21_p4, ?hy21_p5, ?hy21_p6⟩ <;> k_is))
    (case x22 => first | k_exc | k_is)
    (case k22 => k_is)
    (case y22 => (refine' ⟨?hy22_p1, ?hy22_p2, ?hy22_p3, ?hy22_p4, ?hy22_p5, ?hy22_p6⟩ <;> k_is))
    (case x23 => first | k_exc | k_is)
    (case k23 => k_is)
    (case y23 => (refine' ⟨?hy23_p1, ?hy23_p2, ?hy23_p3, ?hy23_p4, ?hy23_p5, ?hy23_p6⟩ <;> k_is))
    (case kit => kernel_rfl)
    (case obj => (refine' ⟨?hobj_p, ?hobj_q⟩ <;> k_is))
    (case aT => k_is)
    (case uT => (refine' Exists.intro _ (L2.fun_mk ?huT_l ?huT_c ?huT_k); (case huT_l => k_is); (case huT_c => k_is); (case huT_k => k_is)))
    (case aP => k_is)
    (case uP => (refine' Exists.intro _ (L2.fun_mk ?huP_l ?huP_c ?huP_k); (case huP_l => k_is); (case huP_c => k_is); (case huP_k => k_is)))
    (case aO => k_is)
    (case uO => (refine' Exists.intro _ (L2.fun_mk ?huO_l ?huO_c ?huO_k); (case huO_l => k_is); (case huO_c => k_is); (case huO_k => k_is)))
    (case aA => k_is)
    (case uA => (refine' Exists.intro _ (L2.fun_mk ?huA_l ?huA_c ?huA_k); (case huA_l => k_is); (case huA_c => k_is); (case huA_k => k_is)))
    (case aV => k_is)
    (case uV => (refine' Exists.intro _ (L2.fun_mk ?huV_l ?huV_c ?huV_k); (case huV_l => k_is); (case huV_c => k_is); (case huV_k => k_is)))
    (case aK => k_is)
    (case uK => (refine' Exists.intro _ (L2.fun_mk ?huK_l ?huK_c ?huK_k); (case huK_l => k_is); (case huK_c => k_is); (case huK_k => k_is)))
    (case aQ => k_is)
    (case uQ => (refine' Exists.intro _ (L2.fun_mk ?huQ_l ?huQ_c ?huQ_k); (case huQ_l => k_is); (case huQ_c => k_is); (case huQ_k => k_is)))
    (case aL => k_is)
    (case uL => (refine' Exists.intro _ (L2.fun_mk ?huL_l ?huL_c ?huL_k); (case huL_l => k_is); (case huL_c => k_is); (case huL_k => k_is)))
    (case zint => k_is)
    (case zlen => k_is)
    (case zisinstance => k_is)
    (case zrepr => k_is)
    (case zrange => k_is)
    (case zmax => k_is)
    (case zmin => k_is)
    (case zenumerate => k_is)
    (case zValueError => k_is)
